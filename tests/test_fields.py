"""Points 50 and 51: primes, powers, inverses and polynomials."""

import random
import unittest
from itertools import product

from lotshown.errors import OutOfRange
from lotshown.fields import inverse, is_prime, power, through, value_at
from tests.kinds import ODD_VALUES

GREATEST = 2 ** 62 - 57


class Primes(unittest.TestCase):
    def test_small_numbers(self):
        for number in range(-5, 5000):
            right = number > 1 and all(number % divisor for divisor in range(2, int(number ** 0.5) + 1))
            self.assertIs(is_prime(number), right)

    def test_squares_of_primes_and_products(self):
        primes = (2, 3, 31, 37, 41, 43, 65537, 2147483647)
        for one in primes:
            self.assertIs(is_prime(one), True)
            for other in primes:
                self.assertIs(is_prime(one * other), False)

    def test_numbers_that_look_like_primes(self):
        for number in (341, 561, 1105, 1729, 2047, 2465, 8911, 1373653, 25326001, 3215031751, 4759123141, 1122004669633,
                       2152302898747, 3474749660383, 341550071728321, 3825123056546413051):
            self.assertIs(is_prime(number), False)

    def test_great_numbers(self):
        self.assertIs(is_prime(GREATEST), True)
        for number in range(GREATEST + 1, 2 ** 62 + 200):
            self.assertIs(is_prime(number), False)
        # The next primes are beyond the bound.
        for number in (2 ** 89 - 1, 2 ** 127 - 1, 10 ** 70 + 33, 2 ** 62 + 135):
            self.assertIs(is_prime(number), False)
        self.assertIs(is_prime(2 ** 61 - 1), True)
        self.assertIs(is_prime(1000000007 * 998244353), False)

    def test_other_kinds(self):
        for value in (True, False, None, 2.0, 7.0, "7", (7,), [7], b"7", {}, -7):
            self.assertIs(is_prime(value), False)
        for value in ODD_VALUES:
            self.assertIs(is_prime(value), value == 7)


class Powers(unittest.TestCase):
    def test_powers(self):
        for base, exponent, modulus in product((0, 1, 2, 5, 100, 2 ** 70), (0, 1, 2, 7, 64, 10 ** 18), (2, 3, 7, 10, 2 ** 62)):
            self.assertEqual(power(base, exponent, modulus), pow(base, exponent, modulus))

    def test_inverses(self):
        for q in (3, 5, 7, 101):
            for number in range(1, q):
                self.assertEqual(inverse(number, q) * number % q, 1)
                self.assertTrue(1 <= inverse(number, q) < q)
            for number in (-1, 0, q, q + 1):
                with self.assertRaises(OutOfRange):
                    inverse(number, q)
        self.assertEqual(inverse(1, GREATEST), 1)
        self.assertEqual(inverse(GREATEST - 1, GREATEST), GREATEST - 1)
        self.assertEqual(inverse(2, GREATEST) * 2 % GREATEST, 1)


class Polynomials(unittest.TestCase):
    def test_values(self):
        self.assertEqual([value_at(7, (3, 2), x) for x in range(7)], [3, 5, 0, 2, 4, 6, 1])
        self.assertEqual(value_at(7, (5,), 3), 5)
        self.assertEqual(value_at(7, (1, 2, 3, 0), 6), 2)
        self.assertEqual(value_at(GREATEST, (GREATEST - 1,) * 8, 1), GREATEST - 8)

    def test_through_all_points(self):
        chance = random.Random(12)
        for q in (11, 101, GREATEST):
            for size in range(1, 9):
                polynomial = tuple(chance.randint(0, q - 1) for _ in range(size))
                indices = sorted(chance.sample(range(1, min(q, 50)), size))
                points = tuple((index, value_at(q, polynomial, index)) for index in indices)
                self.assertEqual(through(q, points), polynomial)

    def test_through_points_of_a_lower_polynomial(self):
        self.assertEqual(through(7, ((1, 4), (3, 4), (6, 4))), (4, 0, 0))
        self.assertEqual(through(7, ((2, 0),)), (0,))
        self.assertEqual(through(3, ((1, 2), (2, 0))), (1, 1))

    def test_number_of_points(self):
        for size in (0, 9, 12):
            with self.assertRaises(OutOfRange):
                through(101, tuple((index, 5) for index in range(1, size + 1)))
        self.assertEqual(through(101, tuple((index, 5) for index in range(1, 9))), (5,) + (0,) * 7)


if __name__ == "__main__":
    unittest.main()
