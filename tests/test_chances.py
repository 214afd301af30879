"""Points 37 and 39: chances of classes, and what escapes systems."""

import random
import unittest
from fractions import Fraction

from lotshown.chances import chance, escaping, share, ways_to_hit
from lotshown.errors import NotThere, TooMuch
from lotshown.games import many, picks_of
from lotshown.hits import class_of, hits
from tests.test_games import SMALL, all_picks, some_system
from tests.test_hits import some_classes

FIELDS = (("choice", 6, 3), ("choice", 5, 5), ("choice", 7, 5), ("choice", 1, 1), ("figures", 3, 3), ("figures", 2, 1),
          ("tail", 3, 3), ("tail", 2, 1), ("tail", 2, 5))


def pair(part, whole):
    fraction = Fraction(part, whole)
    return (fraction.numerator, fraction.denominator)


class Chances(unittest.TestCase):
    def test_ways_to_hit(self):
        for field in FIELDS:
            picks = all_picks((field,))
            for drawn in (picks[0], picks[len(picks) // 2]):
                found = [hits((field,), pick, drawn)[0] for pick in picks]
                for h in range(-3, field[2] + 4):
                    self.assertEqual(ways_to_hit(field, h), found.count(h))
        self.assertEqual(ways_to_hit(("choice", 49, 6), 3), 246820)
        self.assertEqual(ways_to_hit(("tail", 10, 7), 2), 9 * 10 ** 4)
        self.assertEqual(ways_to_hit(("figures", 36, 8), 0), 35 ** 8)

    def test_chance_against_all_picks(self):
        luck = random.Random(9)
        for game in SMALL:
            picks = all_picks(game)
            for _ in range(10):
                classes = some_classes(luck, game, 4)
                pick = luck.choice(picks)
                found = [class_of(game, classes, pick, drawn) for drawn in picks]
                for place in range(len(classes)):
                    self.assertEqual(chance(game, classes, place), pair(found.count(place), len(picks)))

    def test_the_example(self):
        game = (("choice", 6, 2), ("tail", 3, 2))
        classes = (((2, 2),), ((2, 0), (2, 1)), ((1, 2),))
        self.assertEqual(chance(game, classes, 2), (8, 135))
        self.assertIsNone(escaping(game, classes, [((1, 2, 3, 4, 5, 6), ((0,), (0, 1, 2)))], 1))

    def test_a_class_that_cannot_come(self):
        self.assertEqual(chance((("choice", 5, 5),), (((0,), (1,)), ((5,),)), 0), (0, 1))
        self.assertEqual(chance((("choice", 5, 5),), (((0,), (1,)), ((5,),)), 1), (1, 1))

    def test_no_such_class(self):
        game, classes = (("choice", 6, 2),), (((2,),), ((1,),))
        great = (("choice", 49, 6),)
        for place in (-1, 2, 3):
            with self.assertRaises(NotThere):
                chance(game, classes, place)
            for one in (game, great):
                with self.assertRaises(NotThere):
                    escaping(one, classes, [], place)
                with self.assertRaises(NotThere):
                    share(one, classes, [], place)


class SureWins(unittest.TestCase):
    def test_against_going_through_all_picks(self):
        luck = random.Random(10)
        for game in SMALL:
            picks = all_picks(game)
            for _ in range(25):
                classes = some_classes(luck, game, 3)
                systems = [some_system(luck, game) for _ in range(luck.randint(0, 3))]
                held = [pick for system in systems for pick in picks_of(game, system)]
                for place in range(len(classes)):
                    better = range(place + 1)
                    left = [drawn for drawn in picks if not any(class_of(game, classes, pick, drawn) in better for pick in held)]
                    self.assertEqual(escaping(game, classes, systems, place), left[0] if left else None)
                    self.assertEqual(share(game, classes, systems, place), pair(len(picks) - len(left), len(picks)))

    def test_share_nought_between_and_one(self):
        game, classes = (("choice", 6, 2),), (((2,),), ((1,),))
        self.assertEqual(share(game, classes, [], 1), (0, 1))
        self.assertEqual(escaping(game, classes, [], 1), ((1, 2),))
        self.assertEqual(share(game, classes, [((1, 2, 3),)], 0), (1, 5))
        self.assertEqual(escaping(game, classes, [((1, 2, 3),)], 0), ((1, 4),))
        self.assertEqual(share(game, classes, [((1, 2, 3),)], 1), (4, 5))
        self.assertEqual(share(game, classes, [((1, 2, 3),), ((4, 5),)], 1), (1, 1))
        self.assertIsNone(escaping(game, classes, [((1, 2, 3),), ((4, 5),)], 1))

    def test_games_at_the_bound(self):
        just = (("figures", 10, 4), ("choice", 2, 1))
        more = (("choice", 20001, 1),)
        self.assertEqual(many(just), 20000)
        classes = (((4, 1),), ((3, 1),))
        system = (((5,), (5,), (5,), tuple(range(10))), (1,))
        self.assertEqual(share(just, classes, [system], 0), (1, 2000))
        self.assertEqual(escaping(just, classes, [system], 0), ((0, 0, 0, 0), (1,)))
        self.assertEqual(many(more), 20001)
        for call in (share, escaping):
            with self.assertRaises(TooMuch):
                call(more, (((1,),),), [], 0)
            with self.assertRaises(TooMuch):
                call((("choice", 49, 6),), (((6,),),), [], 0)

    def test_the_list_stays_as_it_was(self):
        systems = [((1, 2, 3),)]
        share((("choice", 6, 2),), (((2,),),), systems, 0)
        self.assertEqual(systems, [((1, 2, 3),)])


if __name__ == "__main__":
    unittest.main()
