"""Points 53 to 57: groups, promises, dealings, shares that check, and what two openings tell."""

import random
import unittest
from collections import Counter
from itertools import combinations, product

from lotshown.checked import (checks, is_element, is_group, open_checked, openings, promise, row_of, share_of, told)
from lotshown.errors import Malformed, OutOfRange, Refused
from lotshown.fields import through
from tests.groups import GREAT, SMALL, any_dealing, bent, dealt, number_x
from tests.kinds import ODD_VALUES


def plainly_prime(number):
    return number > 1 and all(number % divisor for divisor in range(2, number))


def plain_product(group, row, index):
    p, q = group[:2]
    answer = 1
    for power, element in enumerate(row):
        answer = answer * pow(element, pow(index, power), p) % p
    return answer


class Groups(unittest.TestCase):
    def test_groups(self):
        for group in SMALL + (GREAT,):
            self.assertIs(is_group(group), True)
            p, q, g, h = group
            self.assertIs(is_group((p, q, h, g)), True)
            self.assertIs(is_group((p, q, g, g)), True)

    def test_all_small_tuples(self):
        found = 0
        for p, q in product(range(32), range(32)):
            for g in range(-1, p + 2):
                right = plainly_prime(p) and plainly_prime(q) and 3 <= q < p and (p - 1) % q == 0
                right = right and 2 <= g <= p - 1 and pow(g, q, p) == 1
                self.assertIs(is_group((p, q, g, g)), right, (p, q, g))
                found += right
        self.assertEqual(found, 32)

    def test_each_number_changed(self):
        for group in SMALL + (GREAT,):
            p, q, g, h = group
            for wrong in ((p + 2, q, g, h), (p - 2, q, g, h), (p, q + 2, g, h), (p, q - 1, g, h), (p, p, g, h), (q, p, g, h),
                          (p, q, 1, h), (p, q, g, 1), (p, q, 0, h), (p, q, g, 0), (p, q, p - 1, h), (p, q, g, p - 1),
                          (p, q, p, h), (p, q, g, p), (p, q, g + p, h), (p, q, g, h + p), (p, q, g - p, h), (p, q, -g, h),
                          (p, 2, p - 1, p - 1), (p, 1, g, h), (p, 0, g, h), (-p, q, g, h), (p, -q, g, h)):
                self.assertIs(is_group(wrong), False, wrong)

    def test_no_primes(self):
        # 16 has the third power 1 modulo 91 = 7 * 13; 5 and 6 have the sixth power 1 modulo 31.
        self.assertEqual([pow(16, 3, 91), 90 % 3, pow(5, 6, 31), pow(6, 6, 31), 30 % 6], [1, 0, 1, 1, 0])
        for wrong in ((91, 3, 16, 16), (31, 6, 5, 6), (31, 15, 5, 5), (3, 2, 2, 2), (31, 30, 5, 5), (9, 3, 4, 4)):
            self.assertIs(is_group(wrong), False)

    def test_at_the_greatest_numbers(self):
        p, q = 2 ** 62 - 57, 198762435067123
        g = pow(2, (p - 1) // q, p)
        self.assertIs(is_group((p, q, g, pow(g, 5, p))), True)
        # The next prime is beyond 2^62.
        p, q = 2 ** 62 + 135, 6779953
        self.assertEqual((p - 1) % q, 0)
        g = pow(2, (p - 1) // q, p)
        self.assertEqual((pow(g, q, p), pow(3, p - 1, p)), (1, 1))
        self.assertIs(is_group((p, q, g, g)), False)

    def test_other_kinds(self):
        for value in ODD_VALUES:
            self.assertIs(is_group(value), False)
        for value in ([7, 3, 2, 4], (7, 3, 2), (7, 3, 2, 4, 4), (7.0, 3, 2, 4), (7, 3.0, 2, 4), (7, 3, "2", 4), (7, 3, 2, None),
                      (7, 3, 2, (4,)), ((7, 3, 2, 4),), (True, 3, 2, 4), (7, True, 2, 4), (7, 3, True, 4), (7, 3, 2, True)):
            self.assertIs(is_group(value), False)


class Elements(unittest.TestCase):
    def test_against_powers(self):
        for group in SMALL:
            p, q, g, _ = group
            subgroup = {pow(g, exponent, p) for exponent in range(q)}
            self.assertEqual(len(subgroup), q)
            for value in range(-2, 2 * p):
                self.assertIs(is_element(group, value), value in subgroup, (group, value))

    def test_edges(self):
        for group in SMALL + (GREAT,):
            p = group[0]
            self.assertEqual([is_element(group, value) for value in (0, 1, p - 1, p, p + 1, -1)],
                             [False, True, False, False, False, False])
        for value in ODD_VALUES:
            self.assertIs(is_element(GREAT, value), value == 1 and type(value) is int)


class Promises(unittest.TestCase):
    def test_promises(self):
        for group in SMALL:
            p, q, g, h = group
            for value, blind in product(range(q), repeat=2):
                self.assertEqual(promise(group, value, blind), g ** value * h ** blind % p)
        p, q, g, h = GREAT
        self.assertEqual(promise(GREAT, q - 1, q - 2), pow(g, q - 1, p) * pow(h, q - 2, p) % p)

    def test_out_of_range(self):
        for group in SMALL + (GREAT,):
            q = group[1]
            for value, blind in ((-1, 0), (0, -1), (q, 0), (0, q), (q + 1, 1), (-q, 0)):
                with self.assertRaises(OutOfRange):
                    promise(group, value, blind)

    def test_rows_and_shares(self):
        group = (23, 11, 2, 3)
        dealing = ((5, 1), (2, 4))
        self.assertEqual(row_of(group, dealing), (12, 1))
        self.assertEqual(share_of(group, dealing, 3), (3, 8, 3))
        self.assertEqual(row_of(group, ((5,), (2,))), (12,))
        self.assertEqual(len(row_of(group, ((1,) * 8, (0,) * 8))), 8)
        self.assertEqual(share_of(group, dealing, 1), (1, 6, 6))
        self.assertEqual(share_of(group, dealing, 10), (10, 4, 9))
        for index in (0, -1, 11, 12):
            with self.assertRaises(OutOfRange):
                share_of(group, dealing, index)

    def test_what_is_no_dealing(self):
        group = (23, 11, 2, 3)
        for wrong in ODD_VALUES + (
            [(5, 1), (2, 4)], ([5, 1], (2, 4)), ((5, 1), [2, 4]), ((5, 1), (2,)), ((5,), (2, 4)), ((5, 1), (2, 4), (1, 1)), ((5, 1),),
            ((), ()), ((1,) * 9, (1,) * 9), ((5, 11), (2, 4)), ((5, -1), (2, 4)), ((5, 1), (2, 11)), ((5, 1), (-1, 4)),
            ((5, True), (2, 4)), ((5, 1), (None, 4)), ((5, 1.0), (2, 4)), (5, 2), "ab",
        ):
            if wrong == ((1, 2), (3, 4)):
                continue
            with self.assertRaises(Malformed):
                row_of(group, wrong)
            with self.assertRaises(Malformed):
                share_of(group, wrong, 1)


class Shares(unittest.TestCase):
    def test_all_shares_of_a_dealing_check(self):
        chance = random.Random(31)
        for group in SMALL + (GREAT,):
            q = group[1]
            for threshold in range(1, 9):
                dealing = any_dealing(chance, q, threshold)
                row = row_of(group, dealing)
                for index in {1, 2, q // 2, q - 2, q - 1} - {0}:
                    share = share_of(group, dealing, index)
                    self.assertIs(checks(group, row, share), True)
                    self.assertEqual(promise(group, *share[1:]), plain_product(group, row, index) if q < 12 else
                                     promise(group, *share[1:]))

    def test_all_small_shares(self):
        chance = random.Random(32)
        for group in SMALL[:4]:
            q = group[1]
            for threshold in (1, 2, 3):
                row = row_of(group, any_dealing(chance, q, threshold))
                for share in product(range(-1, q + 2), repeat=3):
                    index, value, blind = share
                    right = 1 <= index < q and 0 <= value < q and 0 <= blind < q
                    right = right and promise(group, value, blind) == plain_product(group, row, index)
                    self.assertIs(checks(group, row, share), right)

    def test_wrong_shares(self):
        group = (23, 11, 2, 3)
        row = (12, 1)
        self.assertIs(checks(group, row, (3, 8, 3)), True)
        for wrong in ((3, 9, 3), (3, 8, 4), (0, 5, 2), (11, 5, 2), (14, 8, 3), (3, 19, 3), (3, 8, 14), (3, -3, 3),
                      (-8, 8, 3), [3, 8, 3], (3, 8), (3, 8, 3, 0), ((3, 8), 3), (3.0, 8, 3), (3, 8.0, 3), (3, 8, "3"), (3, None, 3)):
            self.assertIs(checks(group, row, wrong), False, wrong)
        for value in ODD_VALUES:
            self.assertIs(checks(group, row, value), False)
        row = row_of(group, ((5, 1), (2, 3)))
        self.assertEqual([checks(group, row, (index, 8, 0)) for index in range(12)], [index == 3 for index in range(12)])
        # A share with the numbers 1 that checks, and the same with a truth value.
        row = row_of(group, ((1,), (1,)))
        self.assertIs(checks(group, row, (1, 1, 1)), True)
        for wrong in ((True, 1, 1), (1, True, 1), (1, 1, True)):
            self.assertIs(checks(group, row, wrong), False)

    def test_fewer_shares_leave_each_secret_equally_often(self):
        for group, thresholds in ((SMALL[0], (1, 2, 3)), (SMALL[1], (1, 2)), (SMALL[3], (1, 2))):
            q = group[1]
            for threshold in thresholds:
                polynomials = list(product(range(q), repeat=threshold))
                dealings = [(dealing, row_of(group, dealing)) for dealing in product(polynomials, repeat=2)]
                for m in range(threshold):
                    for indices in combinations(range(1, q), m):
                        counts = Counter()
                        for dealing, row in dealings:
                            counts[row, tuple(dealt(group, dealing, indices)), dealing[0][0]] += 1
                        self.assertEqual(set(counts.values()), {q ** (threshold - 1 - m)})
                        seen = {key[:2] for key in counts}
                        self.assertEqual(len(counts), q * len(seen))


class Opening(unittest.TestCase):
    def test_from_shares_that_check(self):
        chance = random.Random(33)
        for group in ((23, 11, 2, 3), GREAT):
            q = group[1]
            for threshold in range(1, 9):
                dealing = any_dealing(chance, q, threshold)
                row = row_of(group, dealing)
                good = dealt(group, dealing, chance.sample(range(1, 11), 10))
                wrong = [(index, (value + 1) % q, blind) for index, value, blind in good]
                for shares in (good, good[:threshold], wrong + good, [share for pair in zip(wrong, good) for share in pair],
                               [good[0]] * 3 + good, good[::-1], [(0, 1, 1), (q, 2, 2), (1, q, 0), (-1, 1, 1)] + good):
                    secret, blind = open_checked(group, row, shares)
                    self.assertEqual((secret, blind), (dealing[0][0], dealing[1][0]))
                    self.assertEqual(promise(group, secret, blind), row[0])
                for shares in ([], wrong, good[:threshold - 1], good[:threshold - 1] * 5, wrong + good[:threshold - 1]):
                    with self.assertRaises(Refused):
                        open_checked(group, row, shares)

    def test_the_first_ones_that_check_are_taken(self):
        group = (23, 11, 2, 3)
        one = ((5, 1), (2, 4))
        other = bent(group, one, (3, 7))
        row = row_of(group, one)
        self.assertEqual(row_of(group, other), row)
        mine, yours = dealt(group, one, range(1, 11)), dealt(group, other, range(1, 11))
        self.assertEqual(open_checked(group, row, [mine[0], yours[0], mine[4], yours[1], yours[2]]), (5, 2))
        self.assertEqual(open_checked(group, row, [yours[0], mine[0], mine[0], yours[4], mine[1]]), (other[0][0], other[1][0]))
        mixed = open_checked(group, row, [mine[0], yours[1], mine[2]])
        self.assertEqual(mixed, tuple(through(11, ((1, mine[0][at]), (2, yours[1][at])))[0] for at in (1, 2)))
        self.assertEqual(promise(group, *mixed), row[0])

    def test_nothing_is_changed(self):
        group = (23, 11, 2, 3)
        shares = [(3, 8, 3), (3, 9, 3), (1, 6, 6), (3, 8, 3)]
        kept = list(shares)
        open_checked(group, (12, 1), shares)
        openings(group, (12, 1), shares)
        self.assertEqual(shares, kept)


class Telling(unittest.TestCase):
    def test_all_pairs_of_small_groups(self):
        for group in SMALL[:4]:
            x = number_x(group)
            pairs = list(product(range(group[1]), repeat=2))
            for one, other in product(pairs, repeat=2):
                if one != other and promise(group, *one) == promise(group, *other):
                    self.assertNotEqual(one[1], other[1])
                    self.assertEqual(told(group, one, other), x)
                else:
                    with self.assertRaises(Refused):
                        told(group, one, other)

    def test_in_a_great_group(self):
        p, q, g, _ = GREAT
        x = 123456789123456789
        group = (p, q, g, pow(g, x, p))
        self.assertEqual(told(group, (5, 7), ((5 + 3 * x) % q, 4)), x)
        self.assertEqual(told(group, ((5 + 3 * x) % q, 4), (5, 7)), x)
        with self.assertRaises(Refused):
            told(group, (5, 7), ((5 + 3 * x) % q, 5))


class Openings(unittest.TestCase):
    def assert_opens(self, group, row, shares, found):
        one, other = found
        self.assertNotEqual(one, other)
        self.assertEqual(promise(group, *one), promise(group, *other))
        clashing = [promise(group, *share[1:]) for share, twin in combinations(shares, 2)
                    if share[0] == twin[0] and share != twin and checks(group, row, share) and checks(group, row, twin)]
        self.assertIn(promise(group, *one), list(row) + clashing)
        self.assertEqual(told(group, one, other), number_x(group))

    def lie_on_two_polynomials(self, group, row, shares):
        good = sorted(set(share for share in shares if checks(group, row, share)))
        if len({share[0] for share in good}) < len(good):
            return False
        if len(good) <= len(row):
            return True
        rows = [[through(group[1], tuple((share[0], share[at]) for share in some)) for at in (1, 2)]
                for some in combinations(good, len(row))]
        return all(found == rows[0] for found in rows)

    def test_mixed_shares(self):
        chance = random.Random(34)
        nones = 0
        for group in (SMALL[3], SMALL[4]):
            q = group[1]
            for _ in range(300):
                threshold = chance.randint(1, 4)
                one = any_dealing(chance, q, threshold)
                other = bent(group, one, tuple(chance.choice((0, 0, 1, 3)) for _ in range(threshold)))
                row = row_of(group, one)
                self.assertEqual(row_of(group, other), row)
                shares = dealt(group, one, range(1, q)) + dealt(group, other, range(1, q))
                shares += [(1, 2, 3), (0, 0, 0), (q, 1, 1), (2, q, q)]
                shares = chance.sample(shares, chance.randint(0, min(12, len(shares))))
                found = openings(group, row, shares)
                if self.lie_on_two_polynomials(group, row, shares):
                    self.assertIsNone(found)
                    nones += 1
                else:
                    self.assert_opens(group, row, shares, found)
        self.assertTrue(100 < nones < 500)

    def test_more_shares_with_different_indices(self):
        group = (23, 11, 2, 3)
        for threshold in range(1, 9):
            one = any_dealing(random.Random(threshold), 11, threshold)
            for shift in range(threshold):
                other = bent(group, one, (0,) * shift + (5,) + (0,) * (threshold - shift - 1))
                row = row_of(group, one)
                shares = dealt(group, one, range(1, threshold + 1))
                self.assertIsNone(openings(group, row, shares))
                self.assertIsNone(openings(group, row, dealt(group, one, range(1, 11)) + shares))
                shares += dealt(group, other, (10,))
                self.assert_opens(group, row, shares, openings(group, row, shares))

    def test_the_same_index_twice(self):
        group = (23, 11, 2, 3)
        one = ((5, 1, 6), (2, 4, 0))
        row = row_of(group, one)
        twins = dealt(group, one, (4,)) + dealt(group, bent(group, one, (2, 0, 0)), (4,))
        self.assert_opens(group, row, twins, openings(group, row, twins))
        self.assertIsNone(openings(group, row, twins[:1] * 12))
        self.assertIsNone(openings(group, row, []))
        # The second one does not check.
        self.assertIsNone(openings(group, row, [twins[0], (4, (twins[0][1] + 1) % 11, twins[0][2])]))

    def test_great_numbers(self):
        p, q, g, _ = GREAT
        x = 987654321987654321
        group = (p, q, g, pow(g, x, p))
        one = ((5, 6), (7, 8))
        other = ((5, (6 + 3 * x) % q), (7, 5))
        row = row_of(group, one)
        shares = dealt(group, one, (1, 2)) + dealt(group, other, (q - 1,))
        self.assertEqual(told(group, *openings(group, row, shares)), x)


if __name__ == "__main__":
    unittest.main()
