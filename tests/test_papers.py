"""Points 69 and 70: papers that show a bound, or a worth."""

import random
import unittest
from fractions import Fraction

from lotshown.papers import shows_bound, shows_worth
from lotshown.values import earned, made_plan, worth, worth_table
from tests.kinds import ODD_VALUES
from tests.machinery import EXAMPLE, HALVES, all_plans, pair, payoffs_of, random_machine

PAYOFFS = payoffs_of(0, 10)
TABLE = worth_table(EXAMPLE, PAYOFFS)


def plainly_shows(machine, payoffs, bound, paper):
    rows = [Fraction(*one) for one in paper]
    if rows[0] > Fraction(*bound):
        return False
    for node, amount in zip(machine, rows):
        if node[0] == "end" and amount < payoffs[node[1]]:
            return False
        if node[0] == "chance" and amount < sum(rows[after] for after in node[1]) / len(node[1]):
            return False
        if node[0] == "choice" and any(amount < rows[after] - price for after, price in zip(node[1], node[2])):
            return False
    return True


class Bounds(unittest.TestCase):
    def test_tables_show_the_worth(self):
        chance = random.Random(81)
        for _ in range(200):
            machine = random_machine(chance, chance.randint(1, 12), (0, 1, 2), 5)
            payoffs = payoffs_of(*[chance.randint(-9, 9) for _ in range(3)])
            table, best = worth_table(machine, payoffs), worth(machine, payoffs)
            self.assertIs(shows_bound(machine, payoffs, best, table), True)
            self.assertIs(shows_bound(machine, payoffs, pair(Fraction(*best) + 1), table), True)
            self.assertIs(shows_bound(machine, payoffs, pair(Fraction(*best) - Fraction(1, 10 ** 9)), table), False)

    def test_one_number_changed(self):
        chance = random.Random(82)
        shown = 0
        for _ in range(400):
            machine = random_machine(chance, chance.randint(1, 9), (0, 1, 2), 5)
            payoffs = payoffs_of(*[chance.randint(-9, 9) for _ in range(3)])
            bound = pair(Fraction(*worth(machine, payoffs)) + chance.choice((0, 0, 1)))
            paper = list(worth_table(machine, payoffs))
            for _ in range(chance.randint(1, 2)):
                at = chance.randint(0, len(paper) - 1)
                paper[at] = pair(Fraction(*paper[at]) + Fraction(chance.choice((-2, -1, 1, 2)), chance.choice((1, 3, 100))))
            right = plainly_shows(machine, payoffs, bound, paper)
            self.assertIs(shows_bound(machine, payoffs, bound, tuple(paper)), right)
            shown += right
        self.assertTrue(40 < shown < 360)

    def test_lowered_numbers_show_nothing(self):
        # Each number of this table is needed: lowered, it is less than what comes behind it.
        for at in range(len(TABLE)):
            part, whole = TABLE[at]
            lowered = TABLE[:at] + (pair(Fraction(part, whole) - Fraction(1, 10 ** 70)),) + TABLE[at + 1:]
            self.assertIs(shows_bound(EXAMPLE, PAYOFFS, (7, 1), lowered), False)

    def test_a_raised_number(self):
        raised = TABLE[:3] + ((1, 10 ** 70),) + TABLE[4:]
        self.assertIs(shows_bound(EXAMPLE, PAYOFFS, (7, 1), raised), True)
        raised = TABLE[:4] + ((51, 10),) + TABLE[5:]
        self.assertIs(shows_bound(EXAMPLE, PAYOFFS, (7, 1), raised), False)
        self.assertIs(shows_bound(EXAMPLE, PAYOFFS, (8, 1), ((8, 1), (5, 1)) + raised[2:]), True)
        self.assertIs(shows_bound(EXAMPLE, PAYOFFS, (7, 1), ((8, 1), (5, 1)) + raised[2:]), False)

    def test_the_bound_alone(self):
        self.assertIs(shows_bound(EXAMPLE, PAYOFFS, (7, 1), TABLE), True)
        self.assertIs(shows_bound(EXAMPLE, PAYOFFS, (10 ** 70, 1), TABLE), True)
        self.assertIs(shows_bound(EXAMPLE, PAYOFFS, (7 * 10 ** 70 - 1, 10 ** 70), TABLE), False)
        self.assertIs(shows_bound((("end", 3),), payoffs_of(0, 0, 0, -4), (-4, 1), ((-4, 1),)), True)
        self.assertIs(shows_bound((("end", 3),), payoffs_of(0, 0, 0, -4), (-5, 1), ((-4, 1),)), False)
        self.assertIs(shows_bound((("end", 3),), payoffs_of(0, 0, 0, -4), (-5, 1), ((-5, 1),)), False)

    def test_nodes_that_nobody_reaches_count(self):
        machine = (("end", 0), ("chance", (2,)), ("end", 1))
        payoffs = payoffs_of(1, 2)
        self.assertIs(shows_bound(machine, payoffs, (1, 1), ((1, 1), (2, 1), (2, 1))), True)
        self.assertIs(shows_bound(machine, payoffs, (1, 1), ((1, 1), (1, 1), (2, 1))), False)
        self.assertIs(shows_bound(machine, payoffs, (1, 1), ((1, 1), (2, 1), (1, 1))), False)

    def test_papers_that_are_none(self):
        for wrong in ODD_VALUES + (list(TABLE), TABLE[:-1], TABLE + ((0, 1),), TABLE[1:], tuple(list(one) for one in TABLE),
                                   dict(enumerate(TABLE))):
            self.assertIs(shows_bound(EXAMPLE, PAYOFFS, (7, 1), wrong), False)
        for at in range(len(TABLE)):
            for wrong in (None, 100, (100,), (200, 2), (100, 1, 1), (100, True), (True, 1), (100.0, 1), [100, 1], ("100", 1), (100, -1),
                          (100, 0), "100", ((100, 1),)):
                paper = ((100, 1),) * at + (wrong,) + ((100, 1),) * (len(TABLE) - at - 1)
                self.assertIs(shows_bound(EXAMPLE, PAYOFFS, (100, 1), paper), False)
        self.assertIs(shows_bound(EXAMPLE, PAYOFFS, (100, 1), ((100, 1),) * len(TABLE)), True)


class ShownWorths(unittest.TestCase):
    def test_made_plans_and_tables(self):
        chance = random.Random(83)
        for _ in range(60):
            machine = random_machine(chance, chance.randint(1, 7), (0, 1, 2), 5)
            payoffs = payoffs_of(*[chance.randint(-9, 9) for _ in range(3)])
            table, best = worth_table(machine, payoffs), worth(machine, payoffs)
            self.assertIs(shows_worth(machine, payoffs, best, made_plan(machine, payoffs), table), True)
            for plan in all_plans(machine)[:50]:
                right = earned(machine, plan, payoffs) == best
                self.assertIs(shows_worth(machine, payoffs, best, plan, table), right)
                for amount in (pair(Fraction(*best) + 1), pair(Fraction(*best) - 1), earned(machine, plan, payoffs)):
                    self.assertIs(shows_worth(machine, payoffs, amount, plan, table), right and amount == best)

    def test_a_plan_that_earns_less(self):
        best, honest = (-1, 1) + (-1,) * 5, (-1, 0) + (-1,) * 5
        self.assertIs(shows_worth(EXAMPLE, PAYOFFS, (7, 1), best, TABLE), True)
        self.assertIs(shows_worth(EXAMPLE, PAYOFFS, (7, 1), honest, TABLE), False)
        self.assertIs(shows_worth(EXAMPLE, PAYOFFS, (5, 1), honest, TABLE), False)
        # The paper shows the bound 8 only, and nothing earns 8.
        loose = ((8, 1), (6, 1)) + TABLE[2:]
        self.assertIs(shows_worth(EXAMPLE, PAYOFFS, (8, 1), best, loose), False)
        self.assertIs(shows_worth(EXAMPLE, PAYOFFS, (7, 1), best, loose), False)

    def test_values_of_other_kinds(self):
        best = (-1, 1) + (-1,) * 5
        for wrong in ODD_VALUES + (list(best), best[:-1], (-1, True) + best[2:], (0, 1) + best[2:], (-1, 2) + best[2:]):
            self.assertIs(shows_worth(EXAMPLE, PAYOFFS, (7, 1), wrong, TABLE), False)
        for wrong in ODD_VALUES + (list(TABLE), TABLE[:-1]):
            self.assertIs(shows_worth(EXAMPLE, PAYOFFS, (7, 1), best, wrong), False)
        self.assertIs(shows_worth(HALVES, PAYOFFS, (5, 1), (-1, -1, -1), ((5, 1), (0, 1), (10, 1))), True)


if __name__ == "__main__":
    unittest.main()
