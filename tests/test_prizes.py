"""Points 130 to 134: tables of prizes, and settled rounds."""

import random
import unittest
from fractions import Fraction
from math import gcd

from lotshown.prizes import is_class, is_outcome, is_state, is_table, settle, start_state
from tests.kinds import ODD_VALUES

MOST = 10 ** 12
FIXED = ("fixed", 20, (0, 1), 0, "keep")
SHARED = ("shared", 300, (1, 2), 0, "roll")
TABLE = (10, (1, 10), 500, (SHARED, FIXED))


def changed(row, at, value):
    return row[:at] + (value,) + row[at + 1:]


def plain_settle(table, state, outcome):
    """Settle a round by following each coin."""
    price, rate, most, classes = table
    sold, winners = outcome
    stakes = price * sold
    due = int(stakes * Fraction(*rate) // 1)
    reserve, pots = 0, 0
    prizes, after = [], []
    fallen = 0
    for at, (word, money, share, cap, rest) in enumerate(classes):
        many = winners[at]
        if word == "fixed":
            reserve -= money * many
            prizes.append(money if many else 0)
            after.append(0)
            continue
        own = int(stakes * Fraction(*share) // 1)
        pots += own
        pot, fallen = state[at] + own + fallen, 0
        prize = 0
        if many:
            if pot < money:
                reserve -= money - pot
                pot = money
            prize = pot // many
            if cap:
                prize = min(prize, cap)
        left = pot - prize * many
        carried = 0
        if rest == "roll":
            carried = min(left, most)
            reserve += left - carried
        elif rest == "down" and at + 1 < len(classes) and classes[at + 1][0] == "shared":
            fallen = left
        else:
            reserve += left
        prizes.append(prize)
        after.append(carried)
    return (tuple(prizes), due, tuple(after), reserve + stakes - due - pots)


def any_rate(chance, most):
    whole = chance.choice((1, 2, 3, 7, 10, 100, 10000))
    part = chance.randint(0, whole * most.numerator // most.denominator)
    divisor = gcd(part, whole)
    return (part // divisor, whole // divisor)


def any_table(chance, great=False):
    left = Fraction(1)
    due = any_rate(chance, left)
    left -= Fraction(*due)
    classes = []
    for _ in range(chance.randint(1, 8)):
        money = chance.choice((0, chance.randint(0, 100), chance.randint(0, MOST if great else 1000)))
        if chance.randint(0, 3) == 0:
            classes.append(("fixed", money, (0, 1), 0, "keep"))
            continue
        rate = any_rate(chance, left)
        left -= Fraction(*rate)
        cap = chance.choice((0, 0, chance.randint(1, 50), chance.randint(1, 1000)))
        classes.append(("shared", money, rate, cap, chance.choice(("roll", "down", "keep"))))
    return (chance.randint(1, 10 ** 6 if great else 20), due, chance.choice((0, 50, MOST)), tuple(classes))


class Classes(unittest.TestCase):
    def test_fixed_classes(self):
        for value, right in ((FIXED, True), (changed(FIXED, 1, 0), True), (changed(FIXED, 1, MOST), True), (changed(FIXED, 1, MOST + 1), False),
                             (changed(FIXED, 1, -1), False), (changed(FIXED, 2, (1, 2)), False), (changed(FIXED, 2, (0, 2)), False),
                             (changed(FIXED, 2, 0), False), (changed(FIXED, 2, (False, 1)), False), (changed(FIXED, 2, (0, True)), False),
                             (changed(FIXED, 2, [0, 1]), False), (changed(FIXED, 3, 1), False), (changed(FIXED, 3, False), False),
                             (changed(FIXED, 3, None), False), (changed(FIXED, 4, "roll"), False), (changed(FIXED, 4, "down"), False),
                             (changed(FIXED, 4, None), False), (changed(FIXED, 1, True), False), (changed(FIXED, 1, 20.0), False),
                             (changed(FIXED, 1, None), False)):
            self.assertIs(is_class(value), right, value)

    def test_shared_classes(self):
        for at, value, right in (
            (1, 0, True), (1, MOST, True), (1, MOST + 1, False), (1, -1, False), (1, True, False), (1, "1", False),
            (2, (0, 1), True), (2, (1, 1), True), (2, (1, 10000), True), (2, (9999, 10000), True), (2, (1, 10001), False),
            (2, (10001, 10000), False), (2, (2, 1), False), (2, (-1, 2), False), (2, (2, 4), False), (2, (1, 2, 3), False), (2, 1, False),
            (2, None, False), (2, (1, 0), False), (2, [1, 2], False), (2, (True, 2), False), (2, "1/2", False),
            (3, 0, True), (3, 1, True), (3, MOST, True), (3, MOST + 1, False), (3, -1, False), (3, True, False), (3, None, False),
            (4, "roll", True), (4, "down", True), (4, "keep", True), (4, "Roll", False), (4, "", False), (4, None, False), (4, 0, False),
            (4, ("roll",), False), (0, "Shared", False), (0, "share", False), (0, None, False), (0, ("shared",), False), (0, 0, False),
            (0, "fixed", False),
        ):
            self.assertIs(is_class(changed(SHARED, at, value)), right, (at, value))

    def test_other_kinds(self):
        for value in ODD_VALUES + (list(SHARED), SHARED[:4], SHARED + (0,), FIXED[:4], (), "fixed"):
            self.assertIs(is_class(value), False)


class Tables(unittest.TestCase):
    def test_tables(self):
        for at, value, right in (
            (0, 1, True), (0, 10 ** 6, True), (0, 0, False), (0, -1, False), (0, 10 ** 6 + 1, False), (0, True, False), (0, None, False),
            (0, 1.0, False), (1, (0, 1), True), (1, (1, 2), True), (1, (5001, 10000), False), (1, (1, 1), False), (1, (1, 10001), False),
            (1, (-1, 2), False), (1, (2, 4), False), (1, 0, False), (1, None, False), (1, [1, 2], False), (1, (True, 2), False),
            (2, 0, True), (2, MOST, True), (2, MOST + 1, False), (2, -1, False), (2, True, False), (2, "5", False),
            (3, (FIXED,), True), (3, (SHARED,), True), (3, (FIXED,) * 8, True), (3, (FIXED,) * 9, False), (3, (), False),
            (3, [FIXED], False), (3, None, False), (3, FIXED, False), (3, (FIXED, None), False), (3, (changed(FIXED, 3, 1),), False),
            (3, (FIXED, list(SHARED)), False), (3, 5, False),
        ):
            self.assertIs(is_table(changed(TABLE, at, value)), right, (at, value))
        for value in ODD_VALUES + (list(TABLE), TABLE[:3], TABLE + (0,)):
            self.assertIs(is_table(value), False)

    def test_rates_that_come_to_1_and_to_more(self):
        for due, rates, right in (((1, 2), ((1, 2),), True), ((1, 2), ((1, 3), (1, 6)), True), ((0, 1), ((1, 3),) * 3, True),
                                  ((0, 1), ((1, 1),), True), ((1, 1), ((0, 1),), True), ((1, 10000), ((1, 1),), False),
                                  ((1, 2), ((1, 3), (1, 5)), False), ((1, 2), ((1, 3), (1, 7)), True),
                                  ((1, 2), ((1, 3), (1667, 10000)), False), ((0, 1), ((1, 7),) * 7, True), ((0, 1), ((1, 7),) * 8, False),
                                  ((1, 9999), ((9997, 9998),), True), ((1, 9998), ((9998, 9999),), False), ((1, 9999), ((9998, 9999),), True)):
            classes = tuple(("shared", 0, rate, 0, "keep") for rate in rates)
            self.assertIs(is_table((1, due, 0, classes)), right, (due, rates))

    def test_outcomes(self):
        for value, right in (((0, (0, 0)), True), ((10 ** 9, (10 ** 6, 0)), True), ((5, (0, 10 ** 6)), True), ((-1, (0, 0)), False),
                             ((10 ** 9 + 1, (0, 0)), False), ((5, (10 ** 6 + 1, 0)), False), ((5, (0, -1)), False), ((5, (0,)), False),
                             ((5, (0, 0, 0)), False), ((5, ()), False), ([5, (0, 0)], False), ((5, [0, 0]), False), ((5, None), False),
                             ((True, (0, 0)), False), ((5, (True, 0)), False), ((5, (0, False)), False), ((5, (0, None)), False),
                             ((5.0, (0, 0)), False), ((5,), False), ((5, (0, 0), 1), False), ((None, (0, 0)), False), ((5, "00"), False)):
            self.assertIs(is_outcome(TABLE, value), right, value)
        for value in ODD_VALUES:
            self.assertIs(is_outcome(TABLE, value), False)

    def test_states(self):
        classes = tuple(("shared", 0, (0, 1), 0, rest) for rest in ("roll", "down", "keep", "roll")) + (FIXED,)
        table = (1, (0, 1), 70, classes)
        for value, right in (((0,) * 5, True), ((70, 0, 0, 70, 0), True), ((1, 0, 0, 0, 0), True), ((71, 0, 0, 0, 0), False),
                             ((0, 0, 0, 71, 0), False), ((-1, 0, 0, 0, 0), False), ((0, 1, 0, 0, 0), False), ((0, 0, 1, 0, 0), False),
                             ((0, 0, 0, 0, 1), False), ((0,) * 4, False), ((0,) * 6, False), ([0] * 5, False), ((True, 0, 0, 0, 0), False),
                             ((0, False, 0, 0, 0), False), ((0, None, 0, 0, 0), False), ((0.0, 0, 0, 0, 0), False), ((), False)):
            self.assertIs(is_state(table, value), right, value)
        for value in ODD_VALUES:
            self.assertIs(is_state(table, value), False)
        self.assertEqual(start_state(table), (0,) * 5)
        self.assertIs(is_state(table, start_state(table)), True)
        # Where nothing can be carried on, the state is always nought.
        self.assertEqual([is_state((1, (0, 1), 0, (SHARED,)), (carried,)) for carried in (0, 1)], [True, False])


class Settling(unittest.TestCase):
    def test_the_examples(self):
        self.assertEqual(settle(TABLE, start_state(TABLE), (40, (0, 3))), ((0, 20), 40, (200, 0), 100))
        self.assertEqual(settle(TABLE, (200, 0), (10, (2, 0))), ((150, 0), 10, (0, 0), -10))

    def one(self, row, sold, many, carried=0, most=MOST, behind=()):
        """Settle a table with one class, and others behind it that nobody wins."""
        return settle((1, (0, 1), most, (row,) + behind), (carried,) + (0,) * len(behind), (sold, (many,) + (0,) * len(behind)))

    def test_pots(self):
        half = ("shared", 0, (1, 2), 0, "roll")
        self.assertEqual(self.one(half, 101, 0), ((0,), 0, (50,), 51))
        self.assertEqual(self.one(half, 101, 1), ((50,), 0, (0,), 51))
        self.assertEqual(self.one(half, 101, 3), ((16,), 0, (2,), 51))
        self.assertEqual(self.one(half, 101, 3, 30), ((26,), 0, (2,), 51))
        self.assertEqual(self.one(half, 0, 5), ((0,), 0, (0,), 0))
        self.assertEqual(self.one(half, 8, 5), ((0,), 0, (4,), 4))

    def test_pots_below_the_money(self):
        for sold, money, change in ((100, 49, 50), (100, 50, 50), (100, 51, 49), (100, 70, 30), (100, 120, -20), (0, 7, -7)):
            row = ("shared", money, (1, 2), 0, "keep")
            self.assertEqual(self.one(row, sold, 1), ((max(money, sold // 2),), 0, (0,), change))
        # Without winners the pot is not raised.
        self.assertEqual(self.one(("shared", 1000, (1, 2), 0, "roll"), 100, 0), ((0,), 0, (50,), 50))
        # What is carried counts first.
        self.assertEqual(self.one(("shared", 100, (1, 2), 0, "roll"), 100, 1, 30), ((100,), 0, (0,), 30))

    def test_caps(self):
        for cap, prize in ((0, 16), (15, 15), (16, 16), (17, 16), (1, 1)):
            for rest in ("roll", "down", "keep"):
                found = self.one(("shared", 0, (1, 2), cap, rest), 100, 3)
                left = 50 - 3 * prize
                self.assertEqual(found, ((prize,), 0, (left if rest == "roll" else 0,), 50 + (0 if rest == "roll" else left)))

    def test_what_is_carried_on_at_most(self):
        row = ("shared", 0, (1, 2), 0, "roll")
        for most, carried in ((0, 0), (49, 49), (50, 50), (51, 50)):
            self.assertEqual(self.one(row, 100, 0, 0, most), ((0,), 0, (carried,), 100 - carried))
        self.assertEqual(self.one(row, 100, 0, 60, 70), ((0,), 0, (70,), 90))

    def test_what_falls_down(self):
        down = ("shared", 0, (1, 2), 0, "down")
        # To the next class, if this is shared; it may fall on, is carried there, and comes to its winners.
        self.assertEqual(self.one(down, 100, 0, behind=(("shared", 0, (1, 10), 0, "roll"),)), ((0, 0), 0, (0, 60), 40))
        self.assertEqual(self.one(down, 100, 0, behind=(("shared", 0, (1, 10), 0, "keep"),)), ((0, 0), 0, (0, 0), 100))
        self.assertEqual(self.one(down, 100, 0, behind=(changed(down, 2, (1, 10)), ("shared", 0, (0, 1), 0, "roll"))),
                         ((0, 0, 0), 0, (0, 0, 60), 40))
        classes = (down, ("shared", 55, (1, 10), 0, "roll"))
        self.assertEqual(settle((1, (0, 1), MOST, classes), (0, 0), (100, (0, 7))), ((0, 8), 0, (0, 4), 40))
        # To nowhere from the last class, and ahead of a fixed one, even if there is a shared one behind that.
        self.assertEqual(self.one(down, 100, 0), ((0,), 0, (0,), 100))
        self.assertEqual(self.one(down, 100, 0, behind=(FIXED, ("shared", 0, (0, 1), 0, "roll"))), ((0, 0, 0), 0, (0, 0, 0), 100))
        classes = (down, FIXED, ("shared", 0, (1, 10), 0, "roll"))
        self.assertEqual(settle((1, (0, 1), MOST, classes), (0, 0, 0), (100, (3, 2, 0))), ((16, 20, 0), 0, (0, 0, 10), 2))

    def test_fixed_prizes_and_due(self):
        table = (7, (1, 3), 0, (FIXED, ("fixed", 0, (0, 1), 0, "keep")))
        self.assertEqual(settle(table, (0, 0), (10, (0, 5))), ((0, 0), 23, (0, 0), 47))
        self.assertEqual(settle(table, (0, 0), (10, (4, 0))), ((20, 0), 23, (0, 0), -33))

    def test_against_a_plain_way(self):
        chance = random.Random(161)
        for turn in range(1500):
            table = any_table(chance, turn % 5 == 0)
            self.assertIs(is_table(table), True)
            state = tuple(chance.randint(0, table[2]) if row[0] == "shared" and row[4] == "roll" else 0 for row in table[3])
            self.assertIs(is_state(table, state), True)
            most = 10 ** 9 if turn % 5 == 0 else 300
            outcome = (chance.randint(0, most), tuple(chance.choice((0, 1, 3, chance.randint(0, 10 ** 6))) for _ in table[3]))
            self.assertIs(is_outcome(table, outcome), True)
            found = settle(table, state, outcome)
            self.assertEqual(found, plain_settle(table, state, outcome))
            prizes, due, after, change = found
            self.assertIs(is_state(table, after), True)
            paid = sum(prize * many for prize, many in zip(prizes, outcome[1]))
            self.assertEqual(table[0] * outcome[0] + sum(state), due + paid + sum(after) + change)
            self.assertEqual([prize for prize, many in zip(prizes, outcome[1]) if many == 0 and prize != 0], [])

    def test_at_the_greatest_numbers(self):
        table = (10 ** 6, (1, 10000), MOST, (("shared", MOST, (9999, 10000), MOST, "roll"), changed(FIXED, 1, MOST)))
        stakes = 10 ** 15
        self.assertEqual(settle(table, (MOST, 0), (10 ** 9, (0, 10 ** 6))),
                         ((0, MOST), stakes // 10000, (MOST, 0), stakes // 10000 * 9999 - MOST * 10 ** 6))
        pot = stakes // 10000 * 9999 + MOST
        self.assertEqual(settle(table, (MOST, 0), (10 ** 9, (3, 0))), ((MOST, 0), stakes // 10000, (MOST, 0), pot - 4 * MOST))
        self.assertEqual(settle(table, (MOST, 0), (10 ** 9, (10 ** 6, 0))), ((pot // 10 ** 6, 0), stakes // 10000, (0, 0), 0))


if __name__ == "__main__":
    unittest.main()
