"""Point 32: the numbers of picks."""

import unittest
from itertools import combinations
from math import comb

from lotshown.errors import OutOfRange
from lotshown.games import many
from lotshown.ranks import choice_number, choice_part, number_of, pick_of
from tests.test_games import SMALL, all_picks

GREAT = (
    (("choice", 49, 6),), (("choice", 50, 5), ("choice", 12, 2)), (("figures", 10, 8), ("tail", 10, 7)),
    (("choice", 58, 10),), (("tail", 36, 8),), (("choice", 100, 3), ("figures", 36, 2), ("tail", 2, 8), ("choice", 10, 10)),
)


class Ranks(unittest.TestCase):
    def test_the_example(self):
        game = (("choice", 6, 2), ("tail", 3, 2))
        self.assertEqual(number_of(game, ((2, 5), (0, 1))), 64)
        self.assertEqual(pick_of(game, 134), ((5, 6), (2, 2)))

    def test_all_picks_of_small_games(self):
        for game in SMALL:
            picks = all_picks(game)
            self.assertEqual(picks, sorted(picks))
            for number, pick in enumerate(picks):
                self.assertEqual(number_of(game, pick), number)
                self.assertEqual(pick_of(game, number), pick)

    def test_first_and_last_picks_of_great_games(self):
        for game in GREAT:
            first = tuple(tuple(range(1, k + 1)) if kind == "choice" else (0,) * k for kind, n, k in game)
            last = tuple(tuple(range(n - k + 1, n + 1)) if kind == "choice" else (n - 1,) * k for kind, n, k in game)
            self.assertEqual((number_of(game, first), pick_of(game, 0)), (0, first))
            self.assertEqual((number_of(game, last), pick_of(game, many(game) - 1)), (many(game) - 1, last))

    def test_there_and_back_in_great_games(self):
        for game in GREAT:
            for number in range(0, many(game), many(game) // 17 + 1):
                self.assertEqual(number_of(game, pick_of(game, number)), number)

    def test_numbers_that_are_none(self):
        for game in SMALL + GREAT:
            for number in (-1, -many(game), many(game), many(game) + 1):
                with self.assertRaises(OutOfRange):
                    pick_of(game, number)

    def test_choices(self):
        for n in range(1, 8):
            for k in range(1, n + 1):
                for number, part in enumerate(combinations(range(1, n + 1), k)):
                    self.assertEqual(choice_number(n, part), number)
                    self.assertEqual(choice_part(n, k, number), part)
        self.assertEqual(choice_part(100, 10, comb(100, 10) - 1), tuple(range(91, 101)))

    def test_choices_that_are_none(self):
        for n, k in ((5, 2), (100, 10), (1, 1)):
            for number in (-1, comb(n, k), comb(n, k) + 1):
                with self.assertRaises(OutOfRange):
                    choice_part(n, k, number)


if __name__ == "__main__":
    unittest.main()
