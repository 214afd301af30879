"""Points 155 and 156: entries, courses of a circle, and spells."""

import random
import unittest

from lotshown.circles import is_course, is_entry, parts_behind, spells
from lotshown.errors import NotThere
from tests.kinds import ODD_VALUES
from tests.plaincircle import any_course, any_entry
from tests.test_dealt import NAMES

MOST = 10 ** 12
ANN = ("join", "ann", 3)
BOB = ("join", "bob", 2)
BUY = ("buy", 10)
WIN = ("win", 0, 7)
RULES = ("held", "now")


class Entries(unittest.TestCase):
    def test_entries(self):
        for value in (ANN, ("join", "ann", 1), ("join", "a" * 16, 1000), ("leave", "ann"), ("give", "ann", "bob", 1), ("give", "ann", "bob", 1000),
                      ("buy", 1), ("buy", MOST), ("win", 0, 1), ("win", 199, MOST), ("win", 10 ** 70, 1)):
            self.assertIs(is_entry(value), True)

    def test_one_thing_broken(self):
        for value in (
            ("join", "ann", 0), ("join", "ann", 1001), ("join", "ann", -1), ("join", "ann", True), ("join", "ann", "3"), ("join", "ann"),
            ("join", "ann", 3, 1), ("join", "Ann", 3), ("join", "", 3), ("join", None, 3), list(ANN), ("Join", "ann", 3), (None, "ann", 3),
            ("leave",), ("leave", ""), ("leave", 1), ("leave", "ann", 1), ("leave", "ann", "bob"), ["leave", "ann"],
            ("give", "ann", "bob", 0), ("give", "ann", "bob", 1001), ("give", "ann", "bob", True), ("give", "ann", "bob"), ("give", "ann", "bob", 1, 1),
            ("give", "ann", "ann", 1), ("give", "Ann", "bob", 1), ("give", "ann", "Bob", 1), ("give", "ann", None, 1), ("give", "ann", 1, "bob"),
            ("buy", 0), ("buy", MOST + 1), ("buy", -1), ("buy", True), ("buy", None), ("buy", "1"), ("buy",), ("buy", 1, 1), ("buy", 1.0),
            ("win", -1, 1), ("win", True, 1), ("win", False, 1), ("win", None, 1), ("win", "0", 1), ("win", 0, 0), ("win", 0, MOST + 1),
            ("win", 0, True), ("win", 0), ("win", 0, 1, 1), ("win", 0.0, 1), ("take", 5), (), ("",), ("", 1),
        ):
            self.assertIs(is_entry(value), False, value)
        for value in ODD_VALUES:
            self.assertIs(is_entry(value), False)
            self.assertIs(is_entry((value, "ann", 3)), False)
            self.assertIs(is_entry(("leave", value)), isinstance(value, str) and value in ("a", "ann"))


class Courses(unittest.TestCase):
    def both(self, course, held, now=None):
        self.assertIs(is_course("held", course), held, course)
        self.assertIs(is_course("now", course), held if now is None else now, course)

    def test_courses(self):
        self.both([], True)
        self.both([ANN], True)
        self.both([ANN, BOB, BUY, WIN, ("leave", "ann"), ("leave", "bob"), ANN], True)

    def test_join_and_leave(self):
        self.both([ANN, ANN], False)
        self.both([ANN, ("join", "ann", 1)], False)
        self.both([ANN, ("leave", "ann"), ANN], True)
        self.both([("leave", "ann")], False)
        self.both([ANN, ("leave", "bob")], False)
        self.both([ANN, ("leave", "ann"), ("leave", "ann")], False)
        self.both([ANN, ("leave", "ann")], True)

    def test_the_parts_behind(self):
        full = [("join", name, 50) for name in NAMES[:40]]
        self.both(full, True)
        self.both(full[:39] + [("join", NAMES[50], 51)], False)
        self.both([("join", name, 1) for name in NAMES[:40]], True)
        self.both([("join", name, 1) for name in NAMES[:41]], False)
        self.both([("join", name, 1) for name in NAMES[:40]] + [("give", NAMES[0], NAMES[40], 1)], True)
        self.both([("join", name, 2) for name in NAMES[:40]] + [("give", NAMES[0], NAMES[40], 1)], False)
        self.both([("join", "ann", 1000), ("join", "bob", 1000)], True)
        self.both([("join", "ann", 1000), ("join", "bob", 1000), ("join", "cid", 1)], False)
        self.both([("join", "ann", 1000), ("join", "bob", 999), ("join", "cid", 1), ("leave", "ann"), ("join", "dan", 1000)], True)
        # A taker has at most 1000 parts.
        self.both([("join", "ann", 600), ("join", "bob", 400), ("give", "ann", "bob", 600)], True)
        self.both([("join", "ann", 601), ("join", "bob", 400), ("give", "ann", "bob", 601)], False)

    def test_give(self):
        self.both([ANN, ("give", "ann", "bob", 1)], True)
        self.both([ANN, ("give", "ann", "bob", 3)], True)
        self.both([ANN, ("give", "ann", "bob", 4)], False)
        self.both([ANN, BOB, ("give", "ann", "bob", 4)], False)
        self.both([ANN, ("give", "bob", "ann", 1)], False)
        self.both([("give", "ann", "bob", 1)], False)
        # Who has given all is out, and may join again.
        self.both([ANN, ("give", "ann", "bob", 3), ("leave", "ann")], False)
        self.both([ANN, ("give", "ann", "bob", 3), ANN], True)
        self.both([ANN, ("give", "ann", "bob", 2), ANN], False)
        self.both([ANN, ("give", "ann", "bob", 3), BOB], False)
        self.both([ANN, ("give", "ann", "bob", 3), ("leave", "bob"), BUY], False)

    def test_purchases_and_wins(self):
        self.both([BUY], False)
        self.both([ANN, BUY], True)
        self.both([ANN, ("leave", "ann"), BUY], False)
        self.both([WIN], False)
        self.both([ANN, WIN], False)
        self.both([ANN, WIN, BUY], False)
        self.both([ANN, BUY, WIN], True)
        self.both([ANN, BUY, WIN, WIN], True)
        self.both([ANN, BUY, ("win", 1, 7)], False)
        self.both([ANN, BUY, ("win", 1, 7), BUY], False)
        self.both([ANN, BUY, BUY, ("win", 1, 7)], True)
        self.both([ANN, BUY, ("leave", "ann"), WIN], True, False)
        self.both([ANN, BUY, ("leave", "ann"), BOB, WIN], True)

    def test_two_hundred_entries(self):
        self.both([ANN] + [BUY] * 199, True)
        self.both([ANN] + [BUY] * 200, False)
        self.both([ANN, ("leave", "ann")] * 100, True)
        self.both([ANN, ("leave", "ann")] * 100 + [ANN], False)

    def test_other_kinds(self):
        for value in ODD_VALUES:
            for rule in RULES:
                self.assertIs(is_course(rule, value), isinstance(value, list) and value == [])
                self.assertIs(is_course(rule, [ANN, value]), False)
                self.assertIs(is_course(rule, [value, ANN]), False)
        for value in ((ANN,), ANN, [list(ANN)], {0: ANN}, "join"):
            self.both(value, False)

    def test_a_rule_that_is_none(self):
        for rule in ("", "Held", "hold", "now ", "held,now"):
            for value in ([], [ANN], None, [BUY]):
                with self.assertRaises(NotThere):
                    is_course(rule, value)

    def test_any_entries(self):
        chance = random.Random(155)
        for _ in range(200):
            course = [any_entry(chance) for _ in range(6)]
            numbers, purchases, right = {}, 0, {"held": True, "now": True}
            for entry in course:
                if entry[0] == "join":
                    fine = entry[1] not in numbers
                    numbers.setdefault(entry[1], entry[2])
                elif entry[0] == "leave":
                    fine = numbers.pop(entry[1], None) is not None
                elif entry[0] == "give":
                    fine = numbers.get(entry[1], 0) >= entry[3]
                    if fine:
                        numbers[entry[1]] -= entry[3]
                        numbers[entry[2]] = numbers.get(entry[2], 0) + entry[3]
                        numbers = {member: number for member, number in numbers.items() if number}
                elif entry[0] == "buy":
                    fine = bool(numbers)
                    purchases += 1
                else:
                    fine = entry[1] < purchases
                    right["now"] = right["now"] and bool(numbers)
                right = {rule: so and fine for rule, so in right.items()}
            for rule in RULES:
                self.assertIs(is_course(rule, course), right[rule], course)


class Spells(unittest.TestCase):
    def test_spells(self):
        self.assertEqual(spells([]), [(0, ())])
        course = [ANN, BUY, BOB, ("give", "ann", "bob", 3), WIN, BUY, ("give", "bob", "cid", 1), ("leave", "bob"), ("leave", "cid")]
        self.assertEqual(spells(course), [
            (0, ()), (1, (("ann", 3),)), (3, (("ann", 3), ("bob", 2))), (4, (("bob", 5),)), (7, (("bob", 4), ("cid", 1))), (8, (("cid", 1),)), (9, ()),
        ])
        for many in range(len(course) + 1):
            self.assertEqual(spells(course[:many]), [row for row in spells(course) if row[0] <= many])
            self.assertEqual(parts_behind(course[:many]), spells(course[:many])[-1][1])

    def test_parts_behind(self):
        self.assertEqual(parts_behind([]), ())
        self.assertEqual(parts_behind([BOB, ANN]), (("ann", 3), ("bob", 2)))
        self.assertEqual(parts_behind([ANN, ("leave", "ann")]), ())
        self.assertEqual(parts_behind([ANN, BUY, WIN]), (("ann", 3),))

    def test_nothing_is_shared(self):
        course = any_course(random.Random(1), "now", 30)
        before = list(course)
        rows = spells(course)
        rows.clear()
        is_course("now", course)
        parts_behind(course)
        self.assertEqual(course, before)
        self.assertGreater(len(spells(course)), 1)


if __name__ == "__main__":
    unittest.main()
