"""Points 150 to 154: the coin rule."""

import random
import unittest
from fractions import Fraction
from math import ceil, floor

from lotshown.dealt import dealt, got, is_parts, owner
from lotshown.errors import OutOfRange
from tests.kinds import ODD_VALUES

PARTS = (("ann", 3), ("bob", 2), ("cid", 1))
TOP = 10 ** 15
LETTERS = "abcdefghijklmnopqrstuvwxyz"
NAMES = tuple(sorted(one + other for one in LETTERS for other in LETTERS))


def changed(row, at, value):
    return row[:at] + (value,) + row[at + 1:]


def any_parts(chance, members, most):
    names = sorted(chance.sample(NAMES, members))
    return tuple((name, chance.choice((1, chance.randint(1, most)))) for name in names)


def plain_owners(parts, many):
    """List the members to whom so many coins go, by the words of point 151."""
    whole = sum(number for _, number in parts)
    had = dict.fromkeys((member for member, _ in parts), 0)
    owners = []
    for coin in range(1, many + 1):
        rows = []
        for member, number in parts:
            j = had[member] + 1
            due_from = floor(Fraction((j - 1) * whole, number)) + 1
            due_until = ceil(Fraction(j * whole, number))
            if due_from <= coin:
                rows.append((due_until, member))
        until, member = min(rows)
        assert until >= coin
        had[member] += 1
        owners.append(member)
    return owners


class Parts(unittest.TestCase):
    def test_parts(self):
        for value in (PARTS, (("ann", 1),), (("ann", 1000),), (("ann", 1000), ("bob", 1000)), tuple((name, 50) for name in NAMES[:40]),
                      (("a", 1), ("b" * 16, 1)), (("ann", 999), ("bob", 1000), ("cid", 1))):
            self.assertIs(is_parts(value), True)

    def test_one_condition_broken(self):
        for value in (
            (), list(PARTS), (("ann", 0),), (("ann", -1),), (("ann", 1001),), (("ann", True),), (("ann", 1.0),), (("ann", "1"),), (("ann", None),),
            (("Ann", 1),), (("", 1),), (("a" * 17, 1),), ((None, 1),), ((1, 1),), (("ann",),), (("ann", 1, 1),), (["ann", 1],), ("ann", 1),
            (("bob", 1), ("ann", 1)), (("ann", 1), ("ann", 1)), (("ann", 1), ("ann", 2)), (("ann", 1), ("bob", 1), ("bob", 2)),
            (("ann", 1000), ("bob", 1000), ("cid", 1)), tuple((name, 1) for name in NAMES[:41]),
            tuple((name, 50) for name in NAMES[:39]) + ((NAMES[39], 51),), PARTS + (None,), PARTS + PARTS,
        ):
            self.assertIs(is_parts(value), False, value)
        for value in ODD_VALUES:
            self.assertIs(is_parts(value), False)
            self.assertIs(is_parts((value,)), False)
            self.assertIs(is_parts(PARTS + (value,)), False)
            self.assertIs(is_parts((("ann", value),)), value in (1, 7) and isinstance(value, int) and not isinstance(value, bool))
            self.assertIs(is_parts(((value, 1),)), isinstance(value, str) and value in ("a", "ann"))


class Coins(unittest.TestCase):
    def test_of_the_document(self):
        self.assertEqual([owner(PARTS, coin) for coin in range(1, 7)], ["ann", "bob", "ann", "bob", "ann", "cid"])
        self.assertEqual(got(PARTS, 8), (4, 3, 1))
        self.assertEqual(dealt(PARTS, 2, 3), (2, 1, 0))

    def test_each_coin_of_some_turns(self):
        chance = random.Random(151)
        for turn in range(150):
            parts = any_parts(chance, chance.randint(1, 9), 9)
            self.assertIs(is_parts(parts), True)
            whole = sum(number for _, number in parts)
            owners = plain_owners(parts, 2 * whole + 5)
            self.assertEqual([owner(parts, coin) for coin in range(1, 2 * whole + 6)], owners)
            for coins in range(2 * whole + 6):
                right = tuple(owners[:coins].count(member) for member, _ in parts)
                self.assertEqual(got(parts, coins), right)
                for (_, number), many in zip(parts, right):
                    exact = Fraction(coins * number, whole)
                    self.assertIn(many, (floor(exact), ceil(exact)))

    def test_great_parts(self):
        chance = random.Random(152)
        for parts in (
            tuple((name, 50) for name in NAMES[:40]), (("ann", 1000), ("bob", 1000)), (("ann", 1000), ("bob", 999), ("cid", 1)),
            tuple((name, 11 + 2 * at) for at, name in enumerate(NAMES[:40])), any_parts(chance, 40, 49), (("ann", 999), ("bob", 1)),
        ):
            self.assertIs(is_parts(parts), True)
            whole = sum(number for _, number in parts)
            owners = plain_owners(parts, whole)
            for coins in (0, 1, 7, whole - 1, whole):
                self.assertEqual(got(parts, coins), tuple(owners[:coins].count(member) for member, _ in parts))
            for coin in (1, 2, whole // 2, whole - 1, whole):
                self.assertEqual(owner(parts, coin), owners[coin - 1])
                self.assertEqual(owner(parts, coin + 3 * whole), owners[coin - 1])
            self.assertEqual(got(parts, whole), tuple(number for _, number in parts))

    def test_one_member(self):
        for number in (1, 7, 1000):
            parts = (("ann", number),)
            self.assertEqual(got(parts, TOP), (TOP,))
            self.assertEqual(got(parts, 0), (0,))
            self.assertEqual(owner(parts, TOP), "ann")
            self.assertEqual(dealt(parts, 5, 9), (9,))

    def test_equal_parts_go_around_by_name(self):
        parts = (("ann", 4), ("bob", 4), ("cid", 4))
        self.assertEqual([owner(parts, coin) for coin in range(1, 8)], ["ann", "bob", "cid"] * 2 + ["ann"])

    def test_the_bounds_of_coins(self):
        self.assertEqual(owner(PARTS, 1), "ann")
        self.assertEqual(owner(PARTS, TOP), plain_owners(PARTS, 6)[(TOP - 1) % 6])
        self.assertEqual(sum(got(PARTS, TOP)), TOP)
        self.assertEqual(got(PARTS, TOP), tuple(TOP // 6 * number + more for number, more in zip((3, 2, 1), got(PARTS, TOP % 6))))
        self.assertEqual(sum(dealt(PARTS, TOP, TOP)), TOP)
        for coin in (0, -1, TOP + 1, True, False, None, "1", 1.0, (1,)):
            with self.assertRaises(OutOfRange):
                owner(PARTS, coin)

    def test_all_begins_anew(self):
        chance = random.Random(153)
        for _ in range(40):
            parts = any_parts(chance, chance.randint(1, 12), 20)
            whole = sum(number for _, number in parts)
            coins = chance.randint(0, TOP)
            self.assertEqual(got(parts, coins + whole), tuple(many + number for many, (_, number) in zip(got(parts, coins), parts)))


class Money(unittest.TestCase):
    def test_pieces(self):
        chance = random.Random(154)
        for _ in range(60):
            parts = any_parts(chance, chance.randint(1, 12), 40)
            before = chance.choice((0, 3, chance.randint(0, 10 ** 9), chance.randint(0, TOP // 2)))
            pieces = [chance.choice((0, 1, 2, chance.randint(0, 10 ** 12))) for _ in range(4)]
            sums = (0,) * len(parts)
            coins = before
            for piece in pieces:
                sums = tuple(one + more for one, more in zip(sums, dealt(parts, coins, piece)))
                coins += piece
            self.assertEqual(sums, dealt(parts, before, sum(pieces)))
            self.assertEqual(sum(sums), sum(pieces))
            self.assertEqual(sums, tuple(late - early for early, late in zip(got(parts, before), got(parts, coins))))
        self.assertEqual(dealt(PARTS, 7, 0), (0, 0, 0))

    def test_one_coin(self):
        for before in range(20):
            told = dealt(PARTS, before, 1)
            self.assertEqual([PARTS[at][0] for at, many in enumerate(told) if many], [owner(PARTS, before + 1)])

    def test_a_member_under_several_names(self):
        chance = random.Random(155)
        for _ in range(60):
            others = tuple((name, chance.randint(1, 30)) for name in ("bob", "dan", "fay")[:chance.randint(1, 3)])
            pieces = [chance.randint(1, 12) for _ in range(chance.randint(2, 5))]
            alone = tuple(sorted(others + (("cid", sum(pieces)),)))
            many = tuple(sorted(others + tuple(("cid" + letter, number) for letter, number in zip("abcde", pieces))))
            whole = sum(number for _, number in alone)
            for coins in list(range(whole + 1)) + [chance.randint(0, TOP)]:
                one = dict(zip([member for member, _ in alone], got(alone, coins)))["cid"]
                under = sum(number for (member, _), number in zip(many, got(many, coins)) if member.startswith("cid"))
                self.assertLessEqual(under, one + len(pieces))


if __name__ == "__main__":
    unittest.main()
