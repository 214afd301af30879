"""Points 117 to 120: tables of draws, distances, draws that are alike, and enough digits."""

import random
import unittest
from collections import Counter
from fractions import Fraction
from functools import lru_cache
from itertools import product

from lotshown.bias import distance, ideal, is_fair, least_digits, least_tries, parting_row, table
from lotshown.errors import OutOfRange, Refused, TooMuch
from lotshown.games import all_picks, whole
from lotshown.picks import chance_below, unfairness
from lotshown.shuffles import most_read, play
from tests.machinery import pair
from tests.recipes import GAME, RECIPES, all_courses

TOP = 10 ** 15
SMALL_DRAWS = [
    (recipe, manner, base)
    for recipe in (("below", 1), ("below", 3), ("below", 5), ("figures", 3, 2), ("subset", 4, 2), ("subset", 3, 3), ("order", 3),
                   ("weights", (2, 0, 1, 3), 2), ("weights", (1, 1, 1), 3), ("game", (("choice", 3, 1), ("tail", 2, 1))),
                   ("number", (("choice", 4, 2),)))
    for manner in (("mod", 1, 1), ("mod", 2, 1), ("scale", 1, 1), ("scale", 2, 1), ("again", 1, 2), ("again", 1, 3), ("again", 2, 2))
    for base in (2, 3, 4, 6)
    if base ** most_read((recipe, manner, base)) <= 4096
]


class Tables(unittest.TestCase):
    def test_against_all_rows(self):
        self.assertGreater(len(SMALL_DRAWS), 150)
        for draw in SMALL_DRAWS:
            rows = list(product(range(draw[2]), repeat=most_read(draw)))
            counts = Counter(play(draw, row)[0] for row in rows)
            self.assertEqual(table(draw), {result: pair(Fraction(counts[result], len(rows))) for result in counts})

    def test_against_all_courses(self):
        for recipe in RECIPES:
            if recipe == ("weights", (1000,) * 3, 2):
                continue
            for manner, base in ((("mod", 2, 1), 10), (("scale", 3, 1), 4), (("again", 1, 7), 16), (("again", 64, 64), 256), (("mod", 1, 1), 2)):
                told = lru_cache(lambda n: [Fraction(*chance_below(n, manner, base, number)) for number in range(n)])
                rows = all_courses(recipe, told)
                sums = {}
                for result, chance, _ in rows:
                    sums[result] = sums.get(result, 0) + chance
                right = {result: pair(sums[result]) for result in sums if sums[result] > 0}
                draw = (recipe, manner, base)
                self.assertEqual(table(draw), right)
                even = all_courses(recipe, lambda n: [Fraction(1, n)] * n)
                sums = {}
                for result, chance, _ in even:
                    sums[result] = sums.get(result, 0) + chance
                self.assertEqual(ideal(recipe), {result: pair(sums[result]) for result in sums})
                far = distance(table(draw), ideal(recipe))
                worst = max(sum(Fraction(*unfairness(n, manner, base)) for n in bounds) for _, _, bounds in rows)
                self.assertLessEqual(Fraction(*far), worst)
                self.assertEqual(is_fair(draw), far == (0, 1))

    def test_ideal_tables(self):
        self.assertEqual(ideal(("below", 4)), {number: (1, 4) for number in range(4)})
        self.assertEqual(ideal(("weights", (2, 0, 1), 2)), {(0, 2): (2, 3), (2, 0): (1, 3)})
        self.assertEqual(ideal(("weights", (5, 3), 1)), {(0,): (5, 8), (1,): (3, 8)})
        self.assertEqual(set(ideal(("subset", 5, 2)).values()), {(1, 10)})
        self.assertEqual(set(ideal(("order", 4)).values()), {(1, 24)})
        for word in ("game", "number"):
            found = ideal((word, GAME))
            self.assertEqual(sorted(found), all_picks(GAME, whole(GAME)))
            self.assertEqual(set(found.values()), {(1, 72)})

    def test_weights_that_are_great(self):
        recipe = ("weights", (1000, 999, 0, 1), 3)
        found = table((recipe, ("mod", 1, 1), 256))
        # One digit comes to 256 numbers only, so the index 0 is always drawn first, and then 1.
        self.assertEqual(found, {(0, 1, 3): (1, 1)})
        found = table((("weights", (100, 50, 106), 1), ("mod", 1, 1), 256))
        self.assertEqual(found, {(0,): (25, 64), (1,): (25, 128), (2,): (53, 128)})

    def test_results_without_a_chance_are_not_there(self):
        self.assertEqual(table((("below", 5), ("mod", 1, 1), 3)), {0: (1, 3), 1: (1, 3), 2: (1, 3)})
        self.assertEqual(table((("below", 5), ("scale", 1, 1), 3)), {0: (1, 3), 1: (1, 3), 3: (1, 3)})
        self.assertEqual(table((("below", 5), ("again", 1, 9), 3)), {0: (1, 3), 1: (1, 3), 2: (1, 3)})
        self.assertEqual(len(ideal(("below", 5))), 5)

    def test_numbers_of_courses(self):
        manner, base = ("mod", 2, 1), 256
        for recipe, right in ((("below", 3000), True), (("below", 3001), False), (("figures", 3000, 1), True), (("figures", 55, 2), False),
                              (("figures", 54, 2), True), (("figures", 2, 11), True), (("figures", 2, 12), False), (("figures", 1, 12), True),
                              (("subset", 15, 3), True), (("subset", 16, 3), False), (("subset", 55, 2), True), (("subset", 56, 2), False),
                              (("order", 6), True), (("order", 7), False), (("weights", (1,) * 8 + (0, 0), 4), True),
                              (("weights", (1,) * 9, 4), False), (("weights", (1,) * 12, 3), True), (("weights", (1,) * 12, 4), False),
                              (("number", (("choice", 25, 3),)), True), (("number", (("choice", 27, 3),)), True),
                              (("number", (("choice", 28, 3),)), False), (("game", (("choice", 15, 3),)), True),
                              (("game", (("choice", 16, 3),)), False), (("game", (("choice", 5, 2), ("figures", 5, 3))), True),
                              (("game", (("choice", 5, 2), ("figures", 5, 3), ("tail", 2, 1))), False), (("below", TOP), False),
                              (("figures", TOP, 12), False), (("subset", 100, 12), False), (("game", (("choice", 49, 6),)), False)):
            draw = (recipe, manner, base)
            if right:
                told = table(draw)
                self.assertEqual(sum(Fraction(*chance) for chance in told.values()), 1)
                self.assertEqual(sum(Fraction(*chance) for chance in ideal(recipe).values()), 1)
                self.assertIn(is_fair(draw), (True, False))
            else:
                for function, value in ((table, draw), (ideal, recipe), (is_fair, draw)):
                    with self.assertRaises(TooMuch):
                        function(value)

    def test_tables_are_not_kept(self):
        ideal(("below", 2)).clear()
        self.assertEqual(len(ideal(("below", 2))), 2)
        table((("below", 2), ("mod", 1, 1), 2))[0] = None
        self.assertEqual(table((("below", 2), ("mod", 1, 1), 2)), {0: (1, 2), 1: (1, 2)})

    def test_many_great_chances(self):
        found = table((("order", 6), ("again", 64, 64), 256))
        self.assertEqual(len(found), 720)
        self.assertEqual(distance(found, ideal(("order", 6)))[0] > 0, True)


class Fairness(unittest.TestCase):
    def test_fair_draws(self):
        for draw, right in (((("below", 6), ("mod", 2, 1), 6), True), ((("below", 6), ("scale", 2, 1), 6), True),
                            ((("below", 6), ("again", 1, 1), 6), True), ((("below", 6), ("again", 3, 64), 10), False),
                            ((("order", 3), ("mod", 1, 1), 6), True), ((("order", 4), ("mod", 1, 1), 6), False),
                            ((("subset", 4, 2), ("mod", 1, 1), 12), True), ((("below", 1), ("mod", 1, 1), 2), True),
                            ((("weights", (1, 3), 1), ("scale", 1, 1), 2), False), ((("weights", (1, 3), 1), ("mod", 2, 1), 2), True),
                            # The weights can be met although a drawing is unfair: below 3, both of the others come to the half.
                            ((("weights", (1, 1), 2), ("mod", 1, 1), 2), True), ((("number", (("choice", 4, 2),)), ("mod", 1, 1), 6), True),
                            ((("game", (("choice", 4, 2),)), ("mod", 1, 1), 6), False)):
            self.assertIs(is_fair(draw), right, draw)

    def test_distances(self):
        one, other = {1: (1, 2), 2: (1, 2)}, {2: (1, 4), 3: (3, 4)}
        for a, b, right in ((one, other, (3, 4)), (other, one, (3, 4)), (one, one, (0, 1)), (one, {9: (1, 1)}, (1, 1)),
                            ({9: (1, 1)}, one, (1, 1)), ({1: (2, 5), 2: (3, 5)}, one, (1, 10)), ({1: (1, 3), (1, 2): (2, 3)}, one, (2, 3))):
            kept = dict(a), dict(b)
            self.assertEqual(distance(a, b), right)
            self.assertEqual((a, b), kept)

    def test_random_distances(self):
        chance = random.Random(151)
        draws = [draw for draw in SMALL_DRAWS if draw[0][0] == "below" or draw[0][0] == "figures"]
        for _ in range(100):
            one, other = table(chance.choice(draws)), table(chance.choice(draws))
            right = sum(abs(Fraction(*one.get(key, (0, 1))) - Fraction(*other.get(key, (0, 1)))) for key in {**one, **other}) / 2
            self.assertEqual(distance(one, other), pair(right))
            self.assertEqual(distance(other, one), pair(right))


class Alike(unittest.TestCase):
    def test_draws_that_are_alike(self):
        for one, other in (((("below", 4), ("mod", 2, 1), 2), (("below", 4), ("scale", 2, 1), 2)),
                           ((("below", 4), ("mod", 2, 1), 2), (("below", 4), ("again", 2, 2), 2)),
                           ((("figures", 2, 2), ("mod", 1, 1), 2), (("figures", 2, 2), ("again", 1, 5), 2)),
                           ((("order", 2), ("mod", 1, 1), 2), (("order", 2), ("scale", 1, 1), 2)),
                           ((("below", 1), ("mod", 1, 1), 2), (("below", 1), ("scale", 9, 1), 2)),
                           ((("below", 2), ("scale", 1, 1), 2), (("below", 2), ("scale", 3, 1), 2)),
                           ((("subset", 3, 3), ("mod", 1, 1), 2), (("subset", 3, 3), ("mod", 2, 1), 2))):
            self.assertIsNone(parting_row(one, other))
            self.assertIsNone(parting_row(other, one))
            self.assertEqual(table(one), table(other))

    def test_parting_rows(self):
        for one, other, right in (
            ((("below", 2), ("mod", 1, 1), 2), (("below", 2), ("mod", 2, 1), 2), (0, 1)),
            ((("below", 2), ("mod", 1, 1), 3), (("below", 2), ("scale", 1, 1), 3), (1,)),
            ((("below", 3), ("mod", 1, 1), 3), (("below", 4), ("mod", 1, 1), 3), None),
            ((("below", 3), ("mod", 1, 1), 4), (("below", 4), ("mod", 1, 1), 4), (3,)),
            ((("below", 2), ("mod", 1, 1), 2), (("figures", 2, 1), ("mod", 1, 1), 2), (0,)),
            ((("figures", 2, 2), ("mod", 1, 1), 2), (("figures", 2, 1), ("mod", 1, 1), 2), (0, 0)),
            ((("below", 1), ("mod", 1, 1), 2), (("figures", 1, 1), ("mod", 1, 1), 2), ()),
            ((("order", 3), ("mod", 1, 1), 2), (("order", 3), ("scale", 1, 1), 2), None),
            ((("order", 3), ("mod", 1, 1), 3), (("order", 3), ("scale", 1, 1), 3), (0, 1)),
            ((("below", 3), ("again", 1, 2), 4), (("below", 3), ("mod", 1, 1), 4), (3, 1)),
        ):
            self.assertEqual(parting_row(one, other), right)
            self.assertEqual(parting_row(other, one), right)

    def test_one_table_of_draws_that_are_not_alike(self):
        one, other = (("below", 2), ("mod", 1, 1), 4), (("below", 2), ("scale", 1, 1), 4)
        self.assertEqual(table(one), table(other))
        self.assertEqual(parting_row(one, other), (1,))

    def test_against_all_rows(self):
        chance = random.Random(152)
        parted = 0
        for _ in range(300):
            one = chance.choice(SMALL_DRAWS)
            other = chance.choice([draw for draw in SMALL_DRAWS if draw[2] == one[2] and (draw[0] == one[0] or chance.randint(0, 20) == 0)])
            size = max(most_read(one), most_read(other))
            rows = product(range(one[2]), repeat=size)
            right = next((row for row in rows if play(one, row)[0] != play(other, row)[0]), None)
            self.assertEqual(parting_row(one, other), right)
            parted += right is not None
        self.assertTrue(30 < parted < 290)

    def test_errors(self):
        one, other = (("below", 2), ("mod", 1, 1), 2), (("below", 2), ("mod", 1, 1), 3)
        with self.assertRaises(Refused):
            parting_row(one, other)
        with self.assertRaises(Refused):
            parting_row((("below", 2), ("mod", 64, 1), 2), (("below", 2), ("mod", 64, 1), 3))
        # 2^12 = 4096 and 2^13 = 8192 rows, 5000 and 5041, 17^3 = 4913 and 18^3 = 5832.
        for m, base, right in ((12, 2, True), (13, 2, False), (3, 17, True), (3, 18, False), (2, 70, True), (2, 71, False), (64, 256, False)):
            long, short = (("below", 2), ("mod", m, 1), base), (("below", 1), ("mod", 1, 1), base)
            for a, b in ((long, short), (short, long), (long, long)):
                if right:
                    self.assertEqual(parting_row(a, b), None if a == b else (0,) * (m - 1) + (1,))
                else:
                    with self.assertRaises(TooMuch):
                        parting_row(a, b)


class EnoughDigits(unittest.TestCase):
    def test_tried_in_order(self):
        chance = random.Random(153)
        nones = 0
        for _ in range(150):
            base, n = chance.choice((2, 3, 10, 16, 256)), chance.choice((1, 2, 3, 6, 7, 10, 49, 1000, 13983816, TOP))
            kind = chance.choice(("mod", "scale", "again"))
            tries = chance.randint(1, 8) if kind == "again" else 1
            most = (1, chance.choice((2, 10, 1000, 10 ** 9, 10 ** 30, 10 ** 80)))
            told = [m for m in range(1, 65) if Fraction(*unfairness(n, (kind, m, tries), base)) <= Fraction(*most)]
            self.assertEqual(least_digits(kind, tries, base, n, most), told[0] if told else None)
            nones += not told
            m = chance.randint(1, 5)
            told = [tries for tries in range(1, 65) if Fraction(*unfairness(n, ("again", m, tries), base)) <= Fraction(*most)]
            self.assertEqual(least_tries(m, base, n, most), told[0] if told else None)
            nones += not told
        self.assertGreater(nones, 20)

    def test_edges(self):
        # Below 6 with one digit of the base 2, 4 numbers are left over; the unfairness of 3 digits is 2 * 4 / (6 * 8) = 1/6.
        self.assertEqual(unfairness(6, ("mod", 3, 1), 2), (1, 6))
        self.assertEqual(least_digits("mod", 1, 2, 6, (1, 6)), 3)
        self.assertEqual(least_digits("mod", 1, 2, 6, (10 ** 9 - 1, 6 * 10 ** 9)), 4)
        self.assertEqual(least_digits("mod", 1, 2, 6, (1, 1)), 1)
        self.assertEqual(least_digits("scale", 1, 2, 8, (0, 1)), 3)
        self.assertIsNone(least_digits("mod", 1, 2, 6, (0, 1)))
        self.assertIsNone(least_digits("again", 64, 2, 6, (0, 1)))
        self.assertIsNone(least_digits("mod", 1, 10, 10, (-1, 1)))
        self.assertEqual(least_digits("mod", 1, 10, 1, (0, 1)), 1)
        self.assertEqual(unfairness(6, ("again", 3, 2), 2), (1, 24))
        self.assertEqual(least_tries(3, 2, 6, (1, 24)), 2)
        self.assertEqual(least_tries(3, 2, 6, (1, 25)), 3)
        self.assertEqual(least_tries(3, 2, 6, (1, 1)), 1)
        self.assertIsNone(least_tries(3, 2, 6, (0, 1)))
        self.assertIsNone(least_tries(2, 2, 6, (1, 4)))
        self.assertEqual(least_tries(2, 2, 6, (1, 3)), 1)
        self.assertEqual(least_tries(64, 256, 7, (1, 7 ** 9)), 1)

    def test_64_digits_and_tries_at_most(self):
        # Below 7, 2^64 leaves 2 numbers over, and 2^65 leaves 4; with less digits drawing is more unfair.
        self.assertEqual(unfairness(7, ("mod", 64, 1), 2), (5, 7 * 2 ** 63))
        self.assertEqual(least_digits("mod", 1, 2, 7, (5, 7 * 2 ** 63)), 64)
        self.assertIsNone(least_digits("mod", 1, 2, 7, pair(Fraction(12, 7 * 2 ** 65))))
        self.assertEqual(unfairness(6, ("again", 3, 64), 2), pair(Fraction(2, 3 * 4 ** 64)))
        self.assertEqual(least_tries(3, 2, 6, pair(Fraction(2, 3 * 4 ** 64))), 64)
        self.assertIsNone(least_tries(3, 2, 6, pair(Fraction(2, 3 * 4 ** 65))))

    def test_out_of_range(self):
        for n in (0, -1, TOP + 1):
            with self.assertRaises(OutOfRange):
                least_digits("mod", 1, 2, n, (1, 1))
            with self.assertRaises(OutOfRange):
                least_tries(3, 2, n, (1, 1))


if __name__ == "__main__":
    unittest.main()
