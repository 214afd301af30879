"""Points 160 to 164: funds, and the worth of their parts."""

import random
import unittest
from fractions import Fraction
from math import ceil, floor

from lotshown.errors import NotThere, Refused
from lotshown.funds import first_worse, fund_behind, greatest_leave, is_fund_course, least_entry, worth
from tests.kinds import ODD_VALUES
from tests.test_dealt import NAMES

MOST = 10 ** 12
ANN = ("in", "ann", 3, 30)
BOB = ("in", "bob", 2, 20)
PARTS = (("ann", 3), ("bob", 2))


def any_course(chance, many, fair=False):
    """Return a fund course in which each entry was taken that could be."""
    course = []
    for _ in range(many):
        coins, parts = fund_behind(course)
        word = chance.choice(("in", "in", "out", "put", "take"))
        member = chance.choice(("ann", "bob", "cid", "dan"))
        number = chance.randint(1, 9)
        if word == "in":
            money = least_entry(coins, parts, number)
            entry = (word, member, number, money + (chance.choice((0, 1)) if fair else chance.choice((-1, 0, 0, 1, 9))))
        elif word == "out" and member in dict(parts):
            money = greatest_leave(coins, parts, member)
            entry = (word, member, money - chance.choice((0, 1)) if fair else money + chance.choice((-1, 0, 0, 1)))
        else:
            entry = (word, chance.randint(1, 50))
        if is_fund_course(course + [entry]):
            course.append(entry)
    return course


class Courses(unittest.TestCase):
    def test_fund_courses(self):
        for course in (
            [], [ANN], [ANN, BOB, ("out", "ann", 50), ("out", "bob", 0)], [("in", "ann", 1, 0)], [("in", "ann", 1000, MOST)],
            [("put", 1)], [("put", MOST)], [("put", 1), ("take", 1)], [("put", MOST)] * 2 + [ANN, ("out", "ann", 2 * MOST + 30)],
            [ANN, ("out", "ann", 30), ANN], [ANN, ("take", 30)], [ANN, ("out", "ann", 0), ("take", 30)],
            [("in", name, 50, 1) for name in NAMES[:40]], [("put", 1)] * 200,
        ):
            self.assertIs(is_fund_course(course), True)

    def test_one_thing_broken(self):
        for course in (
            [("in", "ann", 0, 30)], [("in", "ann", 1001, 30)], [("in", "ann", True, 30)], [("in", "ann", 3, -1)], [("in", "ann", 3, MOST + 1)],
            [("in", "ann", 3, True)], [("in", "ann", 3, None)], [("in", "Ann", 3, 30)], [("in", "ann", 3)], [("in", "ann", 3, 30, 1)], [list(ANN)],
            [("In", "ann", 3, 30)], [ANN, ANN], [ANN, ("in", "ann", 1, 0)], [ANN, ("out", "bob", 0)], [("out", "ann", 0)], [ANN, ("out", "ann", 31)],
            [ANN, ("out", "ann", -1)], [ANN, ("out", "ann", False)], [ANN, ("out", "ann")], [ANN, ("out", "ann", 1, 1)], [ANN, ("out", None, 1)],
            [ANN, ("out", "ann", 1), ("out", "ann", 1)], [ANN, ("out", "ann", 10), ("take", 21)],
            [("put", 0)], [("put", MOST + 1)], [("put", True)], [("put",)], [("put", 1, 1)], [("put", -1)],
            [("take", 1)], [ANN, ("take", 31)], [ANN, ("take", 0)], [ANN, ("take", True)], [ANN, ("take", 30), ("take", 1)], [("put", MOST)] * 2 + [("take", MOST + 1)],
            [("in", name, 1, 1) for name in NAMES[:41]], [("in", "ann", 1000, 1), ("in", "bob", 1000, 1), ("in", "cid", 1, 1)],
            [("put", 1)] * 201, (ANN,), ANN, [("win", 5)], [("join", "ann", 3)],
        ):
            self.assertIs(is_fund_course(course), False, course)
        for value in ODD_VALUES:
            self.assertIs(is_fund_course(value), isinstance(value, list) and value == [])
            self.assertIs(is_fund_course([ANN, value]), False)
            self.assertIs(is_fund_course([value]), False)
            self.assertIs(is_fund_course([(value, 1)]), False)
            self.assertIs(is_fund_course([ANN, ("in", value, 1, 30)]), isinstance(value, str) and value == "a")
            self.assertIs(is_fund_course([ANN, ("in", "bob", value, 30)]), value in (1, 7) and isinstance(value, int) and not isinstance(value, bool))
            self.assertIs(is_fund_course([ANN, ("out", value, 30)]), isinstance(value, str) and value == "ann")

    def test_fund_behind(self):
        self.assertEqual(fund_behind([]), (0, ()))
        course = [("put", 5), BOB, ANN, ("take", 4), ("out", "bob", 51), ("put", MOST), ("out", "ann", 0)]
        behind = [(0, ()), (5, ()), (25, PARTS[1:]), (55, PARTS), (51, PARTS), (0, PARTS[:1]), (MOST, PARTS[:1]), (MOST, ())]
        self.assertIs(is_fund_course(course), True)
        self.assertEqual([fund_behind(course[:many]) for many in range(8)], behind)


class Worth(unittest.TestCase):
    def test_worth(self):
        self.assertEqual(worth(50, PARTS), (10, 1))
        self.assertEqual(worth(51, PARTS), (51, 5))
        self.assertEqual(worth(0, PARTS), (0, 1))
        self.assertEqual(worth(MOST, (("ann", 7),)), (MOST, 7))
        for coins in (0, 1, MOST):
            with self.assertRaises(Refused):
                worth(coins, ())

    def test_entries_and_leaves(self):
        self.assertEqual([least_entry(coins, PARTS, 2) for coins in (0, 1, 2, 3, 5, 50, MOST)], [0, 1, 1, 2, 2, 20, 2 * MOST // 5])
        self.assertEqual([greatest_leave(coins, PARTS, "ann") for coins in (0, 1, 2, 3, 5, 50, MOST)], [0, 0, 1, 1, 3, 30, 3 * MOST // 5])
        for coins in (0, 7, MOST):
            self.assertEqual(least_entry(coins, (), 5), 0)
            self.assertEqual(greatest_leave(coins, PARTS[:1], "ann"), coins)
            for parts in ((), PARTS[:1]):
                with self.assertRaises(NotThere):
                    greatest_leave(coins, parts, "bob")

    def test_against_the_worth(self):
        chance = random.Random(161)
        for _ in range(300):
            parts = tuple((name, chance.randint(1, 30)) for name in ("ann", "bob", "cid")[:chance.randint(1, 3)])
            whole = sum(number for _, number in parts)
            coins, number = chance.choice((0, 7, chance.randint(0, 500))), chance.randint(1, 30)
            exact = Fraction(coins, whole)
            least = least_entry(coins, parts, number)
            self.assertEqual(least, ceil(exact * number))
            self.assertGreaterEqual(Fraction(coins + least, whole + number), exact)
            if least > 0:
                self.assertLess(Fraction(coins + least - 1, whole + number), exact)
            member, own = parts[0]
            most = greatest_leave(coins, parts, member)
            self.assertEqual(most, floor(exact * own))
            if len(parts) > 1:
                self.assertGreaterEqual(Fraction(coins - most, whole - own), exact)
                self.assertLess(Fraction(coins - most - 1, whole - own), exact)


class Worse(unittest.TestCase):
    def test_at_the_bounds(self):
        start = [ANN, ("put", 1)]
        # The least entry of two parts is 62 / 3, rounded up.
        for money, right in ((21, None), (22, None), (20, 2), (0, 2), (MOST, None)):
            self.assertEqual(first_worse(start + [("in", "bob", 2, money)]), right)
        start = [ANN, BOB, ("put", 1)]
        # The greatest leave of three parts is 153 / 5, rounded down.
        for money, right in ((30, None), (31, 3), (29, None), (51, 3), (0, None)):
            self.assertEqual(first_worse(start + [("out", "ann", money)]), right)

    def test_the_first_in_and_the_last_out(self):
        self.assertIsNone(first_worse([]))
        self.assertIsNone(first_worse([("put", 100), ("in", "ann", 3, 0)]))
        self.assertIsNone(first_worse([ANN, ("out", "ann", 30)]))
        self.assertIsNone(first_worse([ANN, ("out", "ann", 0), ("in", "bob", 1, 0), ("out", "bob", 30)]))
        self.assertIsNone(first_worse([ANN, ("take", 30), ("in", "bob", 9, 0)]))

    def test_the_first_of_several(self):
        course = [ANN, ("in", "bob", 3, 29), ("in", "cid", 3, 0), ("out", "ann", 59)]
        self.assertEqual(first_worse(course), 1)
        self.assertEqual(first_worse([ANN, ("in", "bob", 3, 30), ("in", "cid", 3, 0)]), 2)
        self.assertEqual(first_worse([ANN, ("in", "bob", 3, 30), ("out", "ann", 31), ("in", "cid", 3, 0)]), 2)

    def test_against_the_worth(self):
        chance = random.Random(162)
        found = {True: 0, False: 0}
        for _ in range(200):
            course = any_course(chance, 20)
            right = None
            for at, entry in enumerate(course):
                coins, parts = fund_behind(course[:at])
                after, left = fund_behind(course[:at + 1])
                stay = [member for member, _ in parts if member in dict(left)]
                if entry[0] in ("in", "out") and stay and Fraction(*worth(after, left)) < Fraction(*worth(coins, parts)):
                    right = at
                    break
            self.assertEqual(first_worse(course), right)
            found[right is None] += 1
        self.assertGreater(min(found.values()), 20)

    def test_an_even_course_never_falls_but_by_taking(self):
        chance = random.Random(163)
        for _ in range(100):
            course = any_course(chance, 25, True)
            self.assertIsNone(first_worse(course))
            for at, entry in enumerate(course):
                coins, parts = fund_behind(course[:at])
                after, left = fund_behind(course[:at + 1])
                if parts and left and entry[0] != "take":
                    self.assertGreaterEqual(Fraction(*worth(after, left)), Fraction(*worth(coins, parts)))

    def test_in_and_out_at_once(self):
        chance = random.Random(164)
        for _ in range(300):
            coins, number, whole = chance.randint(0, 300), chance.randint(1, 40), chance.randint(1, 40)
            start = [("in", "ann", whole, coins)]
            parts = fund_behind(start)[1]
            least = least_entry(coins, parts, number)
            for paid in {least, least + 1, least + 5, max(0, least - 1), least // 2}:
                behind = start + [("in", "bob", number, paid)]
                leave = greatest_leave(*fund_behind(behind), "bob")
                if paid >= least:
                    self.assertIsNone(first_worse(behind + [("out", "bob", leave)]))
                    self.assertLessEqual(leave, paid)
                else:
                    self.assertEqual(first_worse(behind), 1)
                    self.assertGreaterEqual(leave, paid)


if __name__ == "__main__":
    unittest.main()
