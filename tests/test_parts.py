"""Points 4 to 7: fractions, their writing, rounding and dealing."""

import random
import unittest
from fractions import Fraction

from lotshown.errors import Malformed, NotThere, OutOfRange, Refused
from lotshown.parts import dealt, is_fraction, less, made, minus, plus, read, rounded, through, times, write
from tests.kinds import ODD_VALUES

MOST = 10 ** 60


def pair(fraction):
    return (fraction.numerator, fraction.denominator)


class Fractions(unittest.TestCase):
    def test_fractions(self):
        for value in ((0, 1), (1, 1), (-1, 1), (-3, 4), (7, 3), (MOST, 1), (-MOST, 1), (1, MOST), (MOST - 1, MOST)):
            self.assertIs(is_fraction(value), True)

    def test_no_fractions(self):
        for value in ((0, 2), (2, 4), (1, 0), (0, 0), (1, -2), (3, 3), (MOST + 1, 1), (-MOST - 1, 1), (1, MOST + 1),
                      (True, 2), (1, True), (False, 1), (1, 2, 3), (1,), [1, 2], "1/2", (1.0, 2), (None, 1), (1, "2")):
            self.assertIs(is_fraction(value), False)
        for value in ODD_VALUES:
            self.assertIs(is_fraction(value), value == (1, 2) and isinstance(value, tuple))

    def test_made(self):
        self.assertEqual(made(9, -12), (-3, 4))
        self.assertEqual(made(-9, -12), (3, 4))
        self.assertEqual(made(-9, 12), (-3, 4))
        self.assertEqual(made(0, -5), (0, 1))
        self.assertEqual(made(0, 5), (0, 1))
        self.assertEqual(made(12, 4), (3, 1))
        self.assertEqual(made(-12, 4), (-3, 1))
        self.assertEqual(made(4, 6 * 10 ** 80), (1, 15 * 10 ** 79))

    def test_made_through_nought(self):
        for part in (0, 1, -7):
            with self.assertRaises(OutOfRange):
                made(part, 0)

    def test_reckoning(self):
        chance = random.Random(1)
        for _ in range(300):
            one, other = [Fraction(chance.randint(-20, 20), chance.randint(1, 12)) for _ in range(2)]
            self.assertEqual(plus(pair(one), pair(other)), pair(one + other))
            self.assertEqual(minus(pair(one), pair(other)), pair(one - other))
            self.assertEqual(times(pair(one), pair(other)), pair(one * other))
            self.assertIs(less(pair(one), pair(other)), one < other)
            if other != 0:
                self.assertEqual(through(pair(one), pair(other)), pair(one / other))

    def test_reckoning_beyond_the_bounds(self):
        huge = (10 ** 90 + 1, 10 ** 90)
        self.assertEqual(minus(plus(huge, (1, 3)), huge), (1, 3))
        self.assertEqual(through(times(huge, huge), huge), huge)

    def test_through_nought(self):
        for one in ((0, 1), (1, 2), (-3, 1)):
            with self.assertRaises(OutOfRange):
                through(one, (0, 1))

    def test_less_of_equal_ones(self):
        self.assertIs(less((1, 2), (1, 2)), False)
        self.assertIs(less((-1, 2), (-1, 3)), True)


class Rounding(unittest.TestCase):
    def test_ways(self):
        rows = (
            ((5, 2), 2, 3, 2), ((7, 2), 3, 4, 4), ((1, 2), 0, 1, 0), ((-1, 2), -1, 0, 0), ((-3, 2), -2, -1, -2),
            ((-5, 2), -3, -2, -2), ((-7, 2), -4, -3, -4), ((7, 3), 2, 3, 2), ((8, 3), 2, 3, 3), ((-7, 3), -3, -2, -2),
            ((-8, 3), -3, -2, -3), ((4, 1), 4, 4, 4), ((-3, 1), -3, -3, -3), ((0, 1), 0, 0, 0),
            ((2 * 10 ** 60 + 1, 2), 10 ** 60, 10 ** 60 + 1, 10 ** 60),
        )
        for fraction, down, up, near in rows:
            self.assertEqual([rounded(fraction, way) for way in ("down", "up", "near")], [down, up, near])

    def test_another_way(self):
        for way in ("", "Down", "nearest", "up "):
            with self.assertRaises(NotThere):
                rounded((1, 2), way)


class Writing(unittest.TestCase):
    ROWS = (
        ((-3, 4), "-3/4"), ((7, 1), "7"), ((0, 1), "0"), ((-12, 1), "-12"), ((1, 10), "1/10"), ((100, 7), "100/7"),
        ((MOST, 1), "1" + "0" * 60), ((-MOST, 1), "-1" + "0" * 60), ((1 - MOST, MOST), "-" + "9" * 60 + "/1" + "0" * 60),
    )

    def test_write_and_read(self):
        for fraction, text in self.ROWS:
            self.assertEqual(write(fraction), text)
            self.assertEqual(read(text), fraction)

    def test_write_beyond_the_bounds(self):
        for number in (10 ** 120, 10 ** 121 - 7, 10 ** 180 + 5):
            self.assertEqual(write((number, 1)), str(number))
            self.assertEqual(write((-1, number)), "-1/" + str(number))
        self.assertEqual(write((10 ** 5000 + 1, 10 ** 5000)), "1" + "0" * 4999 + "1/1" + "0" * 5000)

    def test_other_texts(self):
        for text in ("6/8", "+1", "1/1", "-0", "07", "", "-", "/", "1/", "/2", "1/2/3", "1/0", "0/1", "0/5", "-0/5", "1/-2",
                     "1/+2", " 1", "1 ", "1 /2", "1/ 2", "1.5", "1/02", "01/2", "--1", "-3/-4", "a", "0x1", "1_0", "1\n", "1/2\n",
                     "\u0661", "\u00b2", "1" + "0" * 59 + "1", "-1" + "0" * 59 + "1", "1/1" + "0" * 59 + "1", "9" * 130, "0" * 130):
            with self.assertRaises(Malformed, msg=text):
                read(text)


class Dealing(unittest.TestCase):
    def test_ordinary_and_equal_rests(self):
        self.assertEqual(dealt(7, [2, 2, 1, 0]), [3, 3, 1, 0])
        self.assertEqual(dealt(2, [1, 1, 1]), [1, 1, 0])
        self.assertEqual(dealt(1, [1, 2, 1]), [0, 1, 0])
        self.assertEqual(dealt(5, [0, 3, 0, 3, 0]), [0, 3, 0, 2, 0])
        self.assertEqual(dealt(0, [3, 4]), [0, 0])
        self.assertEqual(dealt(9, [5]), [9])

    def test_all_weights_nought(self):
        for amount in (0, 1):
            for weights in ([0], [0, 0, 0]):
                with self.assertRaises(Refused):
                    dealt(amount, weights)

    def test_great_amounts_and_weights(self):
        top = 10 ** 18
        self.assertEqual(dealt(top, [top, top, top]), [top // 3 + 1, top // 3, top // 3])
        self.assertEqual(dealt(top, [1, top]), [1, top - 1])
        self.assertEqual(dealt(199, [top] * 200), [1] * 199 + [0])

    def test_as_the_point_says(self):
        chance = random.Random(2)
        for _ in range(300):
            weights = [chance.choice((0, 1, 1, 2, 3, 50, 51)) for _ in range(chance.randint(1, 9))]
            amount = chance.randint(0, 60)
            total = sum(weights)
            if total == 0:
                continue
            exact = [Fraction(amount * weight, total) for weight in weights]
            shares = [int(part) for part in exact]
            order = sorted(range(len(weights)), key=lambda at: (shares[at] - exact[at], at))
            for at in order[:amount - sum(shares)]:
                shares[at] += 1
            self.assertEqual(dealt(amount, weights), shares)
            self.assertEqual(sum(shares), amount)

    def test_the_list_stays_as_it_was(self):
        weights = [3, 1, 1]
        shares = dealt(7, weights)
        shares.append(5)
        self.assertEqual(weights, [3, 1, 1])
        self.assertEqual(dealt(7, weights), [4, 2, 1])


if __name__ == "__main__":
    unittest.main()
