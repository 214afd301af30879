"""Points 30, 31, 33 and 34: games, picks and systems."""

import random
import unittest
from itertools import combinations, product

from lotshown.errors import TooMuch
from lotshown.games import alone, common, different, held, holds, is_game, is_pick, is_system, many, picks_of
from tests.kinds import ODD_VALUES

SMALL = (
    (("choice", 5, 2),), (("figures", 3, 2),), (("tail", 2, 3),), (("choice", 4, 4), ("tail", 3, 2)),
    (("figures", 2, 2), ("choice", 4, 1), ("tail", 2, 1)), (("choice", 3, 1), ("choice", 3, 2), ("figures", 2, 1), ("tail", 3, 1)),
)


def all_picks(game):
    rows = []
    for kind, n, k in game:
        rows.append(list(combinations(range(1, n + 1), k)) if kind == "choice" else list(product(range(n), repeat=k)))
    return list(product(*rows))


def some_system(chance, game):
    parts = []
    for kind, n, k in game:
        if kind == "choice":
            parts.append(tuple(sorted(chance.sample(range(1, n + 1), chance.randint(k, n)))))
        else:
            parts.append(tuple(tuple(sorted(chance.sample(range(n), chance.randint(1, n)))) for _ in range(k)))
    return tuple(parts)


def is_held(game, system, pick):
    for (kind, _, _), part, one in zip(game, system, pick):
        if kind == "choice" and not set(one) <= set(part):
            return False
        if kind != "choice" and not all(figure in figures for figure, figures in zip(one, part)):
            return False
    return True


class Games(unittest.TestCase):
    def test_fields_at_their_bounds(self):
        for field in (("choice", 1, 1), ("choice", 100, 1), ("choice", 10, 10), ("choice", 3, 3), ("choice", 58, 10),
                      ("figures", 2, 1), ("figures", 36, 1), ("figures", 36, 8), ("figures", 2, 8), ("tail", 2, 1), ("tail", 36, 8)):
            self.assertIs(is_game((field,)), True, field)

    def test_fields_beyond_their_bounds(self):
        for field in (("choice", 0, 0), ("choice", 0, 1), ("choice", 101, 1), ("choice", 5, 0), ("choice", 5, 6), ("choice", 20, 11),
                      ("figures", 1, 1), ("figures", 37, 1), ("figures", 5, 0), ("figures", 5, 9), ("tail", 1, 1), ("tail", 37, 1),
                      ("tail", 5, 0), ("tail", 5, 9), ("choice", -5, -1), ("order", 5, 2), ("", 5, 2), (None, 5, 2), (["choice"], 5, 2),
                      ("choice", True, 1), ("choice", 5, True), ("figures", 5, True), ("tail", 5.0, 1), ("choice", "5", 1),
                      ("choice", 5), ("choice", 5, 2, 1), ["choice", 5, 2], "choice", None, True, 5, ()):
            self.assertIs(is_game((field,)), False, field)

    def test_number_of_fields(self):
        field = ("choice", 5, 2)
        for size in range(0, 6):
            self.assertIs(is_game((field,) * size), 1 <= size <= 4)
        self.assertIs(is_game([field]), False)
        self.assertIs(is_game(field), False)
        self.assertIs(is_game((field, None)), False)
        for value in ODD_VALUES:
            self.assertIs(is_game(value), False)

    def test_number_of_picks(self):
        ten = (("figures", 10, 8), ("tail", 10, 7))
        self.assertEqual(many(ten), 10 ** 15)
        self.assertIs(is_game(ten), True)
        for more in ((("figures", 10, 8), ("tail", 10, 8)), ten + (("choice", 2, 1),), (("figures", 11, 8), ("tail", 10, 7)),
                     (("choice", 100, 10), ("choice", 100, 2))):
            self.assertIs(is_game(more), False)
        self.assertIs(is_game(ten + (("choice", 1, 1),)), True)

    def test_many(self):
        for game in SMALL:
            self.assertIs(is_game(game), True)
            self.assertEqual(many(game), len(all_picks(game)))
        self.assertEqual(many((("choice", 49, 6),)), 13983816)
        self.assertEqual(many((("choice", 50, 5), ("choice", 12, 2))), 139838160)


class Picks(unittest.TestCase):
    def test_all_picks(self):
        for game in SMALL:
            for pick in all_picks(game):
                self.assertIs(is_pick(game, pick), True)

    def test_no_picks(self):
        game = (("choice", 5, 2), ("figures", 3, 2), ("tail", 2, 1))
        right = ((1, 5), (2, 0), (1,))
        self.assertIs(is_pick(game, right), True)
        parts = (
            ((5, 1), (1, 1), (1,), (1, 2, 3), (0, 1), (4, 6), [1, 5], (1, True), (True, 5), None, "15", (1.0, 5), ()),
            ((3, 0), (0, -1), (1,), (1, 1, 1), [2, 0], (True, 0), (2, False), None, 2, ()),
            ((2,), (-1,), (), (0, 0), [1], (True,), 1, None),
        )
        for at, rows in enumerate(parts):
            for part in rows:
                self.assertIs(is_pick(game, right[:at] + (part,) + right[at + 1:]), False, part)
        for value in (list(right), right[:2], right + ((1,),), (), None, True):
            self.assertIs(is_pick(game, value), False)
        for value in ODD_VALUES:
            self.assertIs(is_pick(game, value), False)

    def test_figures_may_repeat_and_descend(self):
        self.assertIs(is_pick((("figures", 3, 3),), ((2, 1, 1),)), True)


class Systems(unittest.TestCase):
    def test_systems(self):
        game = (("choice", 5, 2), ("figures", 3, 2), ("tail", 2, 1))
        for system in (((1, 2), ((0,), (2,)), ((1,),)), ((1, 2, 3, 4, 5), ((0, 1, 2), (0, 2)), ((0, 1),))):
            self.assertIs(is_system(game, system), True)

    def test_no_systems(self):
        game = (("choice", 5, 2), ("figures", 3, 2), ("tail", 2, 1))
        right = ((1, 5), ((0, 2), (1,)), ((0, 1),))
        parts = (
            ((5, 1), (1, 1), (1,), (0, 1), (4, 6), [1, 5], (1, True), (1, 2, 2), (1, 3, 2), None, (), (0, 1, 2, 3, 4, 5)),
            (((0, 2), ()), ((0, 2),), ((0, 2), (1,), (1,)), ((2, 0), (1,)), ((0, 0), (1,)), ((0, 3), (1,)), ((-1, 0), (1,)),
             ([0, 2], (1,)), [(0, 2), (1,)], (0, 1), None, (), ((True,), (1,)), ((0, None), (1,)), ((0, 1, 2, 3), (1,))),
            (((2,),), ((),), (), ((0,), (0,)), ([1],), ((1, 0),), ((False,),), (0,), 0, None),
        )
        self.assertIs(is_system(game, right), True)
        for at, rows in enumerate(parts):
            for part in rows:
                self.assertIs(is_system(game, right[:at] + (part,) + right[at + 1:]), False, part)
        for value in (list(right), right[:2], right + (right[0],), (), None, True):
            self.assertIs(is_system(game, value), False)
        for value in ODD_VALUES:
            self.assertIs(is_system(game, value), False)

    def test_alone(self):
        for game in SMALL:
            for pick in all_picks(game):
                system = alone(game, pick)
                self.assertIs(is_system(game, system), True)
                self.assertEqual(picks_of(game, system), [pick])

    def test_what_systems_hold(self):
        chance = random.Random(5)
        for game in SMALL:
            everything = all_picks(game)
            for _ in range(25):
                system = some_system(chance, game)
                self.assertIs(is_system(game, system), True)
                inside = [pick for pick in everything if is_held(game, system, pick)]
                self.assertEqual(picks_of(game, system), inside)
                self.assertEqual(held(game, system), len(inside))
                for pick in everything:
                    self.assertIs(holds(game, system, pick), pick in inside)

    def test_most_picks_of_a_system(self):
        game = (("figures", 10, 4),)
        ten = tuple(range(10))
        just = ((ten, ten, ten, (0, 1, 2, 3, 4)),)
        self.assertEqual(held(game, just), 5000)
        self.assertEqual(len(picks_of(game, just)), 5000)
        more = (("choice", 7, 1), ("figures", 9, 1), ("tail", 9, 1), ("choice", 9, 2))
        system = ((1, 2, 3, 4, 5, 6, 7), ((0, 1, 2, 3),), ((0, 1, 2, 3, 4),), tuple(range(1, 10)))
        self.assertEqual(held(more, system), 5040)
        apart = (("choice", 2, 1), ("choice", 41, 1), ("choice", 61, 1))
        rows = (tuple(range(1, 3)), tuple(range(1, 42)), tuple(range(1, 62)))
        self.assertEqual(held(apart, rows), 5002)
        for row in ((game, ((ten, ten, ten, (0, 1, 2, 3, 4, 5)),)), (more, system), (apart, rows)):
            with self.assertRaises(TooMuch):
                picks_of(row[0], row[1])

    def test_common_and_different(self):
        chance = random.Random(6)
        for game in SMALL:
            everything = all_picks(game)
            for many_systems in (0, 1, 2, 3, 5, 12):
                systems = [some_system(chance, game) for _ in range(many_systems)]
                inside = [pick for pick in everything if any(is_held(game, system, pick) for system in systems)]
                self.assertEqual(different(game, systems), len(inside))
            for _ in range(20):
                one, other = some_system(chance, game), some_system(chance, game)
                inside = [pick for pick in everything if is_held(game, one, pick) and is_held(game, other, pick)]
                self.assertEqual(common(game, one, other), len(inside))

    def test_nothing_in_common(self):
        game = (("choice", 6, 2), ("tail", 3, 1))
        one, other = ((1, 2, 3), ((0, 1),)), ((3, 4, 5), ((0, 1),))
        self.assertEqual(common(game, one, other), 0)
        self.assertEqual(different(game, [one, other]), 12)
        apart = ((1, 2, 3), ((2,),))
        self.assertEqual(common(game, one, apart), 0)
        self.assertEqual(different(game, [one, apart, one]), 9)

    def test_twelve_great_systems(self):
        game = (("choice", 49, 6), ("choice", 10, 1))
        systems = [(tuple(range(1, 50)), (place,)) for place in range(1, 11)]
        systems += [(tuple(range(1, 40)), tuple(range(1, 11)))] * 2
        self.assertEqual(different(game, systems), many(game))
        self.assertEqual(different(game, systems[:9] + systems[10:]), 9 * 13983816 + held(game, ((tuple(range(1, 40)), (10,)))))

    def test_lists_stay_as_they_were(self):
        game = SMALL[0]
        systems = [((1, 2, 3),), ((3, 4),)]
        different(game, systems)
        self.assertEqual(systems, [((1, 2, 3),), ((3, 4),)])
        picks_of(game, systems[0]).clear()
        self.assertEqual(len(picks_of(game, systems[0])), 3)


if __name__ == "__main__":
    unittest.main()
