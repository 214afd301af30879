"""Points 142 to 144: tables that pay the same, and the chance that a reserve fails."""

import random
import unittest
from fractions import Fraction
from itertools import product

from lotshown.alike import failing, first_parting
from lotshown.errors import Refused, TooMuch
from lotshown.prizes import is_table
from lotshown.reserves import least_reserve, made_loss
from lotshown.rounds import play, reserves
from tests.programs import any_program, counter

SHARED = ("shared", 300, (1, 2), 0, "roll")
TABLE = (10, (1, 10), 500, (SHARED, ("fixed", 20, (0, 1), 0, "keep")))
OUTCOMES = ((10, (0, 3)), (10, (2, 0)))


def changed(row, at, value):
    return row[:at] + (value,) + row[at + 1:]


def with_class(place, at, value):
    return changed(TABLE, 3, changed(TABLE[3], place, changed(TABLE[3][place], at, value)))


def told(table, course):
    return [row[:2] for row in play(table, list(course))]


def plain_parting(one, other, outcomes, most):
    """Return the first parting course of at most so many outcomes by going through all courses."""
    for rounds in range(1, most + 1):
        for course in product(outcomes, repeat=rounds):
            if told(one, course) != told(other, course):
                return list(course)
    return None


class Alike(unittest.TestCase):
    def test_a_table_with_itself(self):
        self.assertIsNone(first_parting(TABLE, TABLE, OUTCOMES))
        self.assertIsNone(first_parting(TABLE, TABLE, ((0, (0, 0)),)))

    def test_one_number_differs(self):
        no_one, won = (10, (0, 0)), (10, (2, 0))
        paid = (10, (0, 3))
        for other, outcomes, parting in (
            (changed(TABLE, 0, 11), (no_one,), [no_one]),
            (changed(TABLE, 0, 11), ((0, (0, 0)),), None),
            (changed(TABLE, 0, 11), ((0, (0, 0)), won), [won]),
            (changed(TABLE, 1, (1, 11)), (no_one,), [no_one]),
            (changed(TABLE, 1, (1, 11)), ((1, (0, 0)),), [(1, (0, 0))]),
            (changed(TABLE, 1, (0, 1)), ((0, (0, 0)),), None),
            (changed(TABLE, 2, 40), (no_one,), None),
            (changed(TABLE, 2, 299), (won,), None),
            (changed(TABLE, 2, 40), (no_one, won), [no_one] * 6 + [won]),
            (changed(TABLE, 2, 450), (no_one, won), [no_one] * 10 + [won]),
            (changed(TABLE, 2, 600), (no_one, won), [no_one] * 11 + [won]),
            (with_class(1, 1, 21), (no_one,), None),
            (with_class(1, 1, 21), (no_one, paid), [paid]),
            (with_class(0, 1, 301), (no_one,), None),
            (with_class(0, 1, 301), (won,), None),
            (with_class(0, 1, 302), (won,), [won]),
            (with_class(0, 2, (2, 5)), (no_one, (1, (1, 0))), [no_one] * 6 + [(1, (1, 0))]),
            (with_class(0, 2, (2, 5)), (no_one,), None),
            (with_class(0, 3, 149), (no_one, won), [won]),
            (with_class(0, 3, 150), (no_one, won), [no_one] * 6 + [won]),
            (with_class(0, 3, 275), (no_one, won), None),
            (with_class(0, 3, 274), (no_one, won), [no_one] * 10 + [won]),
            (with_class(0, 4, "keep"), (no_one,), None),
            (with_class(0, 4, "keep"), (no_one, won), [no_one] * 6 + [won]),
            (with_class(0, 4, "down"), (no_one, paid), None),
        ):
            self.assertIs(is_table(other), True)
            self.assertEqual(first_parting(TABLE, other, outcomes), parting, (other, outcomes))
            self.assertEqual(first_parting(other, TABLE, outcomes), parting, (other, outcomes))

    def test_the_least_of_the_shortest(self):
        # Either of two outcomes fills the pot; the least of both stands as often as it can.
        low, high, won = (10, (0, 0)), (10, (0, 1)), (10, (2, 0))
        other = with_class(0, 3, 150)
        self.assertEqual(first_parting(TABLE, other, (low, high, won)), [low] * 6 + [won])
        more = (41, (0, 0))
        self.assertEqual(first_parting(TABLE, other, (low, high, won, more)), [low, more, won])
        self.assertEqual(first_parting(TABLE, other, (high, won, more)), [high, more, won])

    def test_different_numbers_of_classes(self):
        for other in (changed(TABLE, 3, TABLE[3][:1]), changed(TABLE, 3, TABLE[3] + TABLE[3][1:])):
            with self.assertRaises(Refused):
                first_parting(TABLE, other, ((0, (0, 0)),))
            with self.assertRaises(Refused):
                first_parting(other, TABLE, ((0, (0, 0)),))

    def test_two_thousand_pairs(self):
        # Both count on, so there are as many pairs as states.
        one = counter(10 ** 6)
        for most, right in ((1999, None), (2000, TooMuch)):
            other, same = counter(most), changed(counter(most), 1, (0, 1))
            self.assertIs(is_table(other), True)
            if right is None:
                self.assertIsNone(first_parting(other, same, ((1, (0,)),)))
            else:
                with self.assertRaises(right):
                    first_parting(other, same, ((1, (0,)),))
        # What parts ahead of the 2001st pair is told, and what parts behind it is not.
        outcomes = ((1, (0,)), (1, (1,)))
        for most in (0, 1, 5, 1997, 1998):
            self.assertEqual(first_parting(one, counter(most), outcomes), [(1, (0,))] * (most + 1) + [(1, (1,))])
        with self.assertRaises(TooMuch):
            first_parting(one, counter(1999), outcomes)

    def test_many_pairs_at_once_behind_a_parting_course(self):
        # Courses as long as the parting one lead to more than 2000 pairs, but shorter ones do not.
        classes = tuple(("shared", 0, (1, 8), 0, "roll") for _ in range(8))
        one = (8, (0, 1), 10 ** 12, classes)
        other = (8, (0, 1), 10 ** 12, classes[:7] + (changed(classes[7], 3, 7),))
        outcomes = tuple(sorted((10 ** at, (0,) * 8) for at in range(1, 10)))
        # Behind four rounds 715 pairs were reached, and behind six of them 5005.
        parting = first_parting(one, other, tuple(sorted(outcomes[:8] + ((1, (0,) * 7 + (1,)),))))
        self.assertEqual(parting, [(10, (0,) * 8), (1, (0,) * 7 + (1,))])
        with self.assertRaises(TooMuch):
            first_parting(one, one, outcomes)

    def test_against_all_courses(self):
        chance = random.Random(143)
        parted = 0
        for turn in range(200):
            table, outcomes = any_program(chance, 3)
            place = chance.randrange(len(table[3]))
            row = table[3][place]
            at, value = chance.choice(((1, row[1] + 1), (3, row[3] + 1), (4, chance.choice(("roll", "down", "keep")))))
            if row[0] == "fixed" and at != 1:
                continue
            other = changed(table, 3, changed(table[3], place, changed(row, at, value)))
            if turn % 5 == 0:
                other = changed(table, 2, chance.randint(0, 20))
            self.assertIs(is_table(other), True)
            right = plain_parting(table, other, outcomes, 5)
            try:
                found = first_parting(table, other, outcomes)
            except TooMuch:
                self.assertIsNone(right)
                continue
            if right is not None or found is None:
                self.assertEqual(found, right)
                parted += found is not None
            else:
                self.assertGreater(len(found), 5)
                self.assertNotEqual(told(table, found), told(other, found))
                self.assertEqual(told(table, found[:-1]), told(other, found[:-1]))
        self.assertGreater(parted, 40)

    def test_alike_but_not_the_same_reserve(self):
        # What is not paid is carried on for nobody, or kept.
        one = (10, (0, 1), 10 ** 6, (("shared", 0, (1, 1), 0, "roll"), ("fixed", 5, (0, 1), 0, "keep")))
        other = changed(one, 3, (("shared", 0, (1, 1), 0, "keep"), one[3][1]))
        outcomes = ((1, (0, 1)),)
        small, large = changed(one, 2, 20), changed(other, 2, 20)
        self.assertIsNone(first_parting(small, large, outcomes))
        self.assertEqual(least_reserve((small, outcomes)), 10)
        self.assertEqual(least_reserve((large, outcomes)), 0)


class Failing(unittest.TestCase):
    def test_no_rounds(self):
        program = (TABLE, OUTCOMES)
        self.assertEqual(failing(program, (1, 1), 0, 0), (0, 1))
        self.assertEqual(failing(program, (1, 0), 10 ** 6, 0), (0, 1))

    def test_plain_cases(self):
        program = ((1, (0, 1), 0, (("fixed", 20, (0, 1), 0, "keep"),)), ((0, (1,)), (20, (0,))))
        self.assertEqual(failing(program, (1, 1), 0, 1), (1, 2))
        self.assertEqual(failing(program, (1, 1), 19, 1), (1, 2))
        self.assertEqual(failing(program, (1, 1), 20, 1), (0, 1))
        self.assertEqual(failing(program, (1, 1), 20, 2), (1, 4))
        self.assertEqual(failing(program, (1, 3), 0, 1), (1, 4))
        self.assertEqual(failing(program, (1, 3), 0, 2), (1, 4))
        self.assertEqual(failing(program, (1, 3), 0, 3), (19, 64))
        # Who failed once has failed.
        self.assertEqual(failing(program, (1000, 1), 0, 20), failing(program, (1000, 1), 19, 20))

    def test_weights_that_are_0(self):
        program = ((1, (0, 1), 0, (("fixed", 20, (0, 1), 0, "keep"),)), ((0, (1,)), (20, (0,))))
        self.assertEqual(failing(program, (0, 1), 0, 20), (0, 1))
        self.assertEqual(failing(program, (1000, 0), 0, 1), (1, 1))
        self.assertEqual(failing(program, (1000, 0), 399, 20), (1, 1))
        self.assertEqual(failing(program, (1000, 0), 400, 20), (0, 1))

    def test_against_all_courses(self):
        chance = random.Random(142)
        between = 0
        for _ in range(120):
            program = any_program(chance, 4)
            weights = tuple(chance.choice((0, 1, 2, 1000)) for _ in program[1])
            if sum(weights) == 0:
                weights = (7,) + weights[1:]
            rounds = chance.randint(0, {1: 9, 2: 7, 3: 5, 4: 4}[len(weights)])
            reserve = chance.choice((0, chance.randint(0, 50), chance.randint(0, 2000)))
            right = Fraction(0)
            for course in product(range(len(weights)), repeat=rounds):
                part = Fraction(1)
                for at in course:
                    part *= Fraction(weights[at], sum(weights))
                rows = reserves(program[0], [program[1][at] for at in course], reserve)
                if rows and rows[-1] < 0:
                    right += part
            found = failing(program, weights, reserve, rounds)
            self.assertEqual(found, (right.numerator, right.denominator))
            between += 0 < right < 1
            least = least_reserve(program)
            if least is not None and reserve >= least:
                self.assertEqual(found, (0, 1))
        self.assertGreater(between, 15)

    def test_twenty_rounds(self):
        program = ((1, (0, 1), 0, (("fixed", 1, (0, 1), 0, "keep"),)), ((0, (1,)), (1, (0,))))
        # The chance that a way of steps up and down goes below 0 within 20 steps.
        stays = {0: 1}
        for _ in range(20):
            rise = {at + 1: many for at, many in stays.items()}
            for at, many in stays.items():
                if at > 0:
                    rise[at - 1] = rise.get(at - 1, 0) + many
            stays = rise
        right = 1 - Fraction(sum(stays.values()), 2 ** 20)
        self.assertEqual(failing(program, (1, 1), 0, 20), (right.numerator, right.denominator))
        self.assertEqual(failing(program, (1000, 1000), 0, 20), (right.numerator, right.denominator))

    def test_the_bound_of_pairs(self):
        # Other numbers of the outcomes, in whatever order, lead to other states.
        table = (1, (0, 1), 10 ** 12, (("shared", 0, (1, 1), 0, "roll"),))
        outcomes = tuple((10 ** at, (0,)) for at in range(9))
        # Behind five rounds there are 1287 pairs, and behind six 3003.
        self.assertEqual(failing((table, outcomes), (1,) * 9, 0, 6), (0, 1))
        with self.assertRaises(TooMuch):
            failing((table, outcomes), (1,) * 9, 0, 7)
        # Behind 15 rounds of these there are just 3000 pairs, and behind 14 rounds of those 3001.
        few = tuple((sold, (0,)) for sold in (39, 41, 116, 131, 154, 161, 235, 264))
        more = tuple((sold, (0,)) for sold in (27, 91, 105, 186, 225, 226, 230, 262, 273))
        for rows, rounds in ((few, 16), (more, 14)):
            self.assertEqual(failing((table, rows), (1,) * len(rows), 0, rounds), (0, 1))
            with self.assertRaises(TooMuch):
                failing((table, rows), (1,) * len(rows), 0, rounds + 1)
        # An outcome with the weight 0 leads nowhere.
        self.assertEqual(failing((table, outcomes), (1,) * 8 + (0,), 0, 7), (0, 1))
        with self.assertRaises(TooMuch):
            failing((table, outcomes), (1,) * 8 + (0,), 0, 8)
        # The program itself has far more states than 2000.
        with self.assertRaises(TooMuch):
            made_loss((table, outcomes))

    def test_what_fails_is_no_pair(self):
        # All but one of the outcomes fail at once, so that there is one pair ahead of each round.
        table = (1, (0, 1), 0, (("fixed", 1, (0, 1), 0, "keep"),))
        outcomes = tuple((0, (many,)) for many in range(12))
        self.assertEqual(failing((table, outcomes), (1,) * 12, 0, 20)[1], 12 ** 20)
        self.assertEqual(failing((table, outcomes), (1,) * 12, 0, 1), (11, 12))


if __name__ == "__main__":
    unittest.main()
