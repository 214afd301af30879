"""Points 51 and 52: dealing a secret, and counting polynomials."""

import random
import unittest
from itertools import product

from lotshown.errors import OutOfRange, Refused, TooMuch
from lotshown.fields import value_at
from lotshown.sharing import count, deal, polynomials, secret_of

GREATEST = 2 ** 62 - 57


class Dealing(unittest.TestCase):
    def test_the_example(self):
        self.assertEqual(deal(7, (3, 2), 3), ((1, 5), (2, 0), (3, 2)))
        self.assertEqual(secret_of(7, 2, ((1, 5), (3, 2))), 3)
        self.assertEqual(count(7, 3, ((1, 5),), 3), 7)

    def test_numbers_of_shares(self):
        self.assertEqual(deal(13, (5,), 1), ((1, 5),))
        self.assertEqual(deal(13, (5,), 12), tuple((index, 5) for index in range(1, 13)))
        self.assertEqual(deal(GREATEST, (1, 1), 12)[-1], (12, 13))
        self.assertEqual(deal(3, (1, 1), 2), ((1, 2), (2, 0)))

    def test_numbers_of_shares_that_are_none(self):
        for q, n in ((13, 0), (13, -1), (13, 13), (101, 13), (7, 7), (7, 8), (3, 3), (11, 12)):
            with self.assertRaises(OutOfRange):
                deal(q, (1, 2), n)


class Secrets(unittest.TestCase):
    def test_just_as_many_points_and_more(self):
        chance = random.Random(13)
        for q in (13, 101, GREATEST):
            for threshold in range(1, 9):
                polynomial = tuple(chance.randint(0, q - 1) for _ in range(threshold))
                points = deal(q, polynomial, 12)
                for size in range(threshold, 13):
                    some = tuple(sorted(chance.sample(points, size)))
                    self.assertEqual(secret_of(q, threshold, some), polynomial[0])

    def test_fewer_points(self):
        for threshold in range(1, 9):
            points = deal(13, (4,) * threshold, 12)[:threshold - 1]
            with self.assertRaises(Refused):
                secret_of(13, threshold, points)

    def test_points_off_the_polynomial(self):
        points = deal(13, (4, 5, 6), 6)
        for at in range(6):
            index, value = points[at]
            wrong = points[:at] + ((index, (value + 1) % 13),) + points[at + 1:]
            with self.assertRaises(Refused):
                secret_of(13, 3, wrong)
        with self.assertRaises(Refused):
            secret_of(13, 2, points)
        self.assertEqual(secret_of(13, 4, points), 4)


class Counting(unittest.TestCase):
    def test_against_all_polynomials(self):
        chance = random.Random(14)
        for q, threshold in ((3, 1), (3, 2), (3, 4), (5, 1), (5, 2), (5, 3), (7, 3)):
            everything = [row[::-1] for row in product(range(q), repeat=threshold)]
            for size in range(0, q):
                for fits in (True, False):
                    indices = sorted(chance.sample(range(1, q), size))
                    one = chance.choice(everything)
                    points = tuple((x, value_at(q, one, x) if fits else chance.randint(0, q - 1)) for x in indices)
                    for secret in range(q):
                        found = [row for row in everything
                                 if row[0] == secret and all(value_at(q, row, x) == value for x, value in points)]
                        self.assertEqual(count(q, threshold, points, secret), len(found))
                        self.assertEqual(polynomials(q, threshold, points, secret), sorted(found))

    def test_each_secret_equally_often(self):
        for size, wanted in ((0, 101 ** 3), (1, 101 ** 2), (2, 101), (3, 1)):
            points = tuple((index, 7) for index in range(1, size + 1))
            for secret in (0, 1, 7, 100):
                self.assertEqual(count(101, 4, points, secret), wanted)
        self.assertEqual(count(GREATEST, 8, (), 5), GREATEST ** 7)

    def test_as_many_points_as_the_threshold_and_more(self):
        points = deal(101, (9, 8, 7), 12)
        for size in (3, 4, 12):
            self.assertEqual(count(101, 3, points[:size], 9), 1)
            self.assertEqual(count(101, 3, points[:size], 8), 0)
            self.assertEqual(polynomials(101, 3, points[:size], 9), [(9, 8, 7)])
            self.assertEqual(polynomials(101, 3, points[:size], 8), [])
        wrong = points[:4] + ((5, (points[4][1] + 1) % 101),)
        self.assertEqual(count(101, 3, wrong, 9), 0)
        self.assertEqual(polynomials(101, 3, wrong, 9), [])

    def test_number_of_polynomials(self):
        self.assertEqual(len(polynomials(1999, 2, (), 4)), 1999)
        self.assertEqual(polynomials(1999, 2, (), 4)[:2], [(4, 0), (4, 1)])
        self.assertEqual(len(polynomials(43, 4, ((2, 5),), 1)), 1849)
        for q, threshold, points in ((2003, 2, ()), (47, 4, ((2, 5),)), (GREATEST, 8, ((1, 1),)), (3, 8, ())):
            with self.assertRaises(TooMuch):
                polynomials(q, threshold, points, 1)
        self.assertEqual(len(polynomials(3, 7, (), 1)), 729)

    def test_great_numbers(self):
        points = deal(GREATEST, (5, GREATEST - 1, 3), 2)
        self.assertEqual(polynomials(GREATEST, 3, points, 5), [(5, GREATEST - 1, 3)])

    def test_what_is_handed_back_is_not_kept(self):
        polynomials(7, 2, (), 3).clear()
        self.assertEqual(len(polynomials(7, 2, (), 3)), 7)


if __name__ == "__main__":
    unittest.main()
