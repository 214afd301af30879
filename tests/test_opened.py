"""Points 61 to 63: readings of points of which some are false."""

import random
import unittest
from itertools import combinations, product

from lotshown.errors import Refused
from lotshown.fields import value_at
from lotshown.opened import agreeing, best_readings, only_reading, two_readings

GREATEST = 2 ** 62 - 57


def points_of(q, polynomial, indices):
    return tuple((index, value_at(q, polynomial, index)) for index in indices)


def plain_best(q, threshold, points):
    counts = {row[::-1]: agreeing(q, row[::-1], points) for row in product(range(q), repeat=threshold)}
    most = max(counts.values())
    return most, sorted(row for row in counts if counts[row] == most)


def changed(q, points, indices):
    return tuple((index, (value + 1 + index % (q - 1)) % q if index in indices else value) for index, value in points)


class Readings(unittest.TestCase):
    def test_agreeing(self):
        self.assertEqual(agreeing(7, (3, 2), ((1, 5), (2, 0), (3, 2))), 3)
        self.assertEqual(agreeing(7, (3, 2), ((1, 5), (2, 1), (3, 2))), 2)
        self.assertEqual(agreeing(7, (3, 3), ((1, 5), (2, 1), (3, 2))), 0)
        self.assertEqual(agreeing(7, (3,), ()), 0)

    def test_against_all_polynomials(self):
        chance = random.Random(51)
        several = onlies = 0
        for q, threshold in ((3, 1), (3, 2), (5, 1), (5, 2), (5, 3), (7, 1), (7, 2), (7, 3), (11, 2)):
            for size in range(threshold, q):
                for _ in range(12):
                    indices = sorted(chance.sample(range(1, q), size))
                    polynomial = tuple(chance.randint(0, q - 1) for _ in range(threshold))
                    points = changed(q, points_of(q, polynomial, indices), chance.sample(indices, chance.randint(0, size // 2)))
                    most, best = plain_best(q, threshold, points)
                    self.assertEqual(best_readings(q, threshold, points), best)
                    several += len(best) > 1
                    if 2 * most > size + threshold - 1:
                        false = tuple(index for index, value in points if value_at(q, best[0], index) != value)
                        self.assertEqual(only_reading(q, threshold, points), (best[0], false))
                        self.assertEqual(len(best), 1)
                        onlies += 1
                    else:
                        self.assertIsNone(only_reading(q, threshold, points))
        self.assertGreater(several, 50)
        self.assertGreater(onlies, 50)

    def test_as_many_false_points_as_can_be_borne(self):
        chance = random.Random(52)
        for q in (13, 101, GREATEST):
            for threshold in range(1, 9):
                for changes in range((12 - threshold) // 2 + 1):
                    polynomial = tuple(chance.randint(0, q - 1) for _ in range(threshold))
                    size = threshold + 2 * changes
                    indices = sorted(chance.sample(range(1, 13), size))
                    false = tuple(sorted(chance.sample(indices, changes)))
                    points = changed(q, points_of(q, polynomial, indices), false)
                    self.assertEqual(best_readings(q, threshold, points), [polynomial])
                    self.assertEqual(only_reading(q, threshold, points), (polynomial, false))

    def test_one_false_point_more(self):
        for q in (13, GREATEST):
            for threshold in range(1, 8):
                for changes in range(1, (12 - threshold) // 2 + 1):
                    points, one, other = two_readings(q, threshold, threshold + 2 * changes - 1, changes)
                    best = best_readings(q, threshold, points)
                    self.assertIn(one, best)
                    self.assertIn(other, best)
                    self.assertIsNone(only_reading(q, threshold, points))

    def test_just_the_only_one_by_its_number(self):
        # With 4 of 6 points and the threshold 2, 2 * 4 > 6 + 1; with 3 of 6 not, though there is no other one.
        points = ((1, 1), (2, 2), (3, 3), (4, 4), (5, 9), (6, 0))
        self.assertEqual(only_reading(11, 2, points), ((0, 1), (5, 6)))
        points = ((1, 1), (2, 2), (3, 3), (4, 0), (5, 9), (6, 2))
        self.assertEqual(plain_best(11, 2, points), (3, [(0, 1)]))
        self.assertEqual(best_readings(11, 2, points), [(0, 1)])
        self.assertIsNone(only_reading(11, 2, points))

    def test_no_false_point(self):
        for size in range(3, 13):
            points = points_of(GREATEST, (5, 6, 7), range(1, size + 1))
            self.assertEqual(best_readings(GREATEST, 3, points), [(5, 6, 7)])
            self.assertEqual(only_reading(GREATEST, 3, points), ((5, 6, 7), ()))

    def test_several_best_readings(self):
        points = ((1, 0), (2, 1), (3, 1))
        self.assertEqual(best_readings(5, 1, points), [(1,)])
        self.assertEqual(best_readings(5, 1, ((1, 4), (2, 1), (3, 2))), [(1,), (2,), (4,)])
        self.assertEqual(len(best_readings(5, 2, points)), 3)
        self.assertEqual(best_readings(5, 2, points), sorted(best_readings(5, 2, points)))

    def test_fewer_points_than_the_threshold(self):
        for threshold in range(1, 9):
            points = tuple((index, 3) for index in range(1, threshold))
            for function in (best_readings, only_reading):
                with self.assertRaises(Refused):
                    function(13, threshold, points)
            self.assertEqual(best_readings(13, threshold, points + ((9, 3),)), [(3,) + (0,) * (threshold - 1)])

    def test_changed_points_never_lie_on_one_polynomial(self):
        # Point 63, for all changes of at most e of t + e points.
        q, threshold, changes = 5, 2, 2
        points = points_of(q, (3, 1), range(1, 5))
        for some in combinations(range(4), changes):
            for values in product(range(q), repeat=changes):
                bent = list(points)
                for at, value in zip(some, values):
                    bent[at] = (at + 1, value)
                whole = plain_best(q, threshold, tuple(bent))[0] == 4
                self.assertEqual(whole, tuple(bent) == points)


class TwoReadings(unittest.TestCase):
    def test_all_that_there_are(self):
        for q in (3, 5, 7, 11, 13, GREATEST):
            for threshold, m, changes in product(range(1, 9), range(0, 14), range(-1, 8)):
                if changes < 1 or not threshold <= m <= 12 or m >= threshold + 2 * changes or q <= m:
                    with self.assertRaises(Refused):
                        two_readings(q, threshold, m, changes)
                    continue
                points, one, other = two_readings(q, threshold, m, changes)
                self.assertEqual(len(points), m)
                self.assertIsInstance(points, tuple)
                indices = [index for index, _ in points]
                self.assertEqual(sorted(set(indices)), indices)
                self.assertTrue(all(1 <= index < q and 0 <= value < q for index, value in points))
                self.assertNotEqual(one[0], other[0])
                for polynomial in (one, other):
                    self.assertIsInstance(polynomial, tuple)
                    self.assertEqual(len(polynomial), threshold)
                    self.assertTrue(all(0 <= coefficient < q for coefficient in polynomial))
                    self.assertGreaterEqual(agreeing(q, polynomial, points), m - changes)

    def test_at_the_edges(self):
        self.assertEqual(len(two_readings(13, 3, 12, 5)[0]), 12)
        for case in ((13, 3, 13, 6), (11, 3, 11, 5), (13, 2, 12, 5), (13, 3, 3, 0), (13, 4, 3, 2)):
            with self.assertRaises(Refused):
                two_readings(*case)
        self.assertEqual(len(two_readings(13, 4, 4, 1)[0]), 4)


if __name__ == "__main__":
    unittest.main()
