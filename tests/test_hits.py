"""Points 35, 36, 38 and 40: hits, classes, and what systems win."""

import random
import unittest
from itertools import product

from lotshown.games import alone, held, picks_of
from lotshown.hits import best_class, class_of, hits, is_classes, wins
from tests.kinds import ODD_VALUES
from tests.test_games import SMALL, all_picks, some_system


def some_classes(chance, game, most):
    rows = list(product(*[range(k + 1) for _, _, k in game]))
    chance.shuffle(rows)
    classes = []
    for _ in range(most):
        size = chance.randint(1, 2)
        if len(rows) >= size:
            classes.append(tuple(sorted(rows[:size])))
            rows = rows[size:]
    return tuple(classes)


class Hits(unittest.TestCase):
    def test_each_kind_of_field(self):
        rows = (
            (("choice", 9, 3), (1, 5, 9), (1, 5, 9), 3), (("choice", 9, 3), (1, 5, 9), (2, 5, 9), 2),
            (("choice", 9, 3), (1, 2, 3), (4, 5, 6), 0), (("choice", 9, 3), (1, 2, 3), (3, 4, 5), 1),
            (("figures", 4, 3), (1, 2, 3), (1, 2, 3), 3), (("figures", 4, 3), (1, 2, 3), (3, 2, 1), 1),
            (("figures", 4, 3), (1, 2, 3), (1, 0, 3), 2), (("figures", 4, 3), (1, 1, 1), (2, 2, 2), 0),
            (("tail", 4, 3), (1, 2, 3), (1, 2, 3), 3), (("tail", 4, 3), (1, 2, 3), (0, 2, 3), 2),
            (("tail", 4, 3), (1, 2, 3), (1, 0, 3), 1), (("tail", 4, 3), (1, 2, 3), (1, 2, 0), 0),
        )
        for field, part, drawn, wanted in rows:
            self.assertEqual(hits((field,), (part,), (drawn,)), (wanted,))

    def test_several_fields(self):
        game = (("choice", 6, 2), ("figures", 3, 2), ("tail", 3, 2))
        self.assertEqual(hits(game, ((1, 2), (0, 1), (2, 2)), ((2, 3), (0, 2), (0, 2))), (1, 1, 1))


class Classes(unittest.TestCase):
    GAME = (("choice", 6, 2), ("tail", 3, 1))

    def test_classes(self):
        for value in ((((2, 1),),), (((2, 0), (2, 1)), ((0, 0),)), (((0, 0),), ((2, 1),), ((1, 0), (1, 1)))):
            self.assertIs(is_classes(self.GAME, value), True)

    def test_no_classes(self):
        for value in (
            (), ((),), (((2, 1),), ()), (((2, 1),), ((2, 1),)), (((2, 0), (2, 1)), ((2, 0),)), (((2, 1), (2, 0)),),
            (((2, 1), (2, 1)),), (((3, 0),),), (((0, 2),),), (((-1, 0),),), (((0, -1),),), (((2,),),), (((2, 1, 0),),),
            [((2, 1),)], ([(2, 1)],), (([2, 1],),), (((True, 1),),), (((2, False),),), (((2, None),),), ((2, 1),), (2, 1),
            (((2, 1),), None), (None,), None, True, 5, "ab", (((2, 1), None),), (((2, 1), 3),), (((2, "1"),),), ((((2, 1),),),),
        ):
            self.assertIs(is_classes(self.GAME, value), False, value)
        for value in ODD_VALUES:
            self.assertIs(is_classes(self.GAME, value), False)

    def test_number_of_classes(self):
        game = (("figures", 3, 8), ("tail", 3, 3))
        rows = [((a, b),) for a in range(9) for b in range(4)]
        for size in (1, 2, 12, 13, 20):
            self.assertIs(is_classes(game, tuple(rows[:size])), size <= 12)

    def test_class_of(self):
        classes = (((2, 1),), ((1, 1), (2, 0)))
        drawn = ((1, 2), (0,))
        for pick, wanted in ((((1, 2), (0,)), 0), (((1, 2), (1,)), 1), (((1, 3), (0,)), 1), (((1, 3), (1,)), None),
                             (((5, 6), (0,)), None)):
            self.assertEqual(class_of(self.GAME, classes, pick, drawn), wanted)


class Wins(unittest.TestCase):
    def test_the_example(self):
        game = (("choice", 6, 2), ("tail", 3, 2))
        classes = (((2, 2),), ((2, 0), (2, 1)), ((1, 2),))
        self.assertEqual(wins(game, classes, ((1, 2, 3), ((0, 1), (2,))), ((2, 3), (0, 2))), (1, 1, 2))

    def test_against_counting(self):
        chance = random.Random(7)
        for game in SMALL:
            picks = all_picks(game)
            for _ in range(40):
                classes = some_classes(chance, game, 4)
                self.assertIs(is_classes(game, classes), True)
                systems = [some_system(chance, game) for _ in range(3)]
                drawn = chance.choice(picks)
                rows = []
                for system in systems:
                    found = [class_of(game, classes, pick, drawn) for pick in picks_of(game, system)]
                    rows.append(tuple(found.count(place) for place in range(len(classes))))
                    self.assertEqual(wins(game, classes, system, drawn), rows[-1])
                best = [place for place in range(len(classes)) if any(row[place] for row in rows)]
                self.assertEqual(best_class(game, classes, systems, drawn), best[0] if best else None)

    def test_sum_over_all_that_may_be_drawn(self):
        chance = random.Random(8)
        for game in SMALL:
            picks = all_picks(game)
            classes = some_classes(chance, game, 5)
            system = some_system(chance, game)
            one = alone(game, picks[0])
            for place in range(len(classes)):
                total = sum(wins(game, classes, system, drawn)[place] for drawn in picks)
                single = sum(wins(game, classes, one, drawn)[place] for drawn in picks)
                self.assertEqual(total, held(game, system) * single)

    def test_great_systems(self):
        game = (("choice", 49, 6),)
        everything = (tuple(range(1, 50)),)
        drawn = ((1, 2, 3, 4, 5, 6),)
        self.assertEqual(wins(game, (((6,),), ((5,),), ((3,), (4,))), everything, drawn), (1, 258, 13545 + 246820))

    def test_best_class(self):
        game = (("choice", 6, 2),)
        classes = (((2,),), ((1,),))
        drawn = ((1, 2),)
        self.assertEqual(best_class(game, classes, [((3, 4),), ((2, 3),)], drawn), 1)
        self.assertEqual(best_class(game, classes, [((2, 3),), ((1, 2, 3),)], drawn), 0)
        self.assertIsNone(best_class(game, classes, [((3, 4, 5),)], drawn))
        self.assertIsNone(best_class(game, classes, [], drawn))

    def test_the_list_stays_as_it_was(self):
        systems = [((1, 2, 3),)]
        best_class((("choice", 6, 2),), (((2,),),), systems, ((1, 2),))
        self.assertEqual(systems, [((1, 2, 3),)])


if __name__ == "__main__":
    unittest.main()
