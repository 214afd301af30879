"""Points 67 and 68: what plans earn, worths, tables and made plans."""

import random
import unittest
from fractions import Fraction

from lotshown.machines import honest_plan, is_plan
from lotshown.values import earned, made_plan, worth, worth_table
from tests.machinery import EXAMPLE, HALVES, all_plans, pair, payoffs_of, plain_earned, random_machine


def plain_table(machine, payoffs):
    rows = {}
    for at in reversed(range(len(machine))):
        node = machine[at]
        if node[0] == "end":
            rows[at] = Fraction(payoffs[node[1]])
        elif node[0] == "chance":
            rows[at] = sum(rows[after] for after in node[1]) / len(node[1])
        else:
            rows[at] = max(rows[after] - price for after, price in zip(node[1], node[2]))
    return [rows[at] for at in range(len(machine))]


class Worths(unittest.TestCase):
    def test_the_example(self):
        payoffs = payoffs_of(0, 10)
        self.assertEqual(worth(EXAMPLE, payoffs), (7, 1))
        self.assertEqual(made_plan(EXAMPLE, payoffs), (-1, 1, -1, -1, -1, -1, -1))
        self.assertEqual(worth_table(EXAMPLE, payoffs), ((7, 1), (4, 1), (10, 1), (0, 1), (5, 1), (0, 1), (10, 1)))
        self.assertEqual(earned(EXAMPLE, honest_plan(EXAMPLE), payoffs), (5, 1))

    def test_against_all_plans(self):
        chance = random.Random(71)
        for _ in range(120):
            machine = random_machine(chance, chance.randint(1, 8), (0, 1, 2, 63), 6)
            payoffs = payoffs_of(*[chance.randint(-9, 9) for _ in range(64)])
            told = []
            for plan in all_plans(machine)[:300]:
                amount = plain_earned(machine, plan, payoffs)
                self.assertEqual(earned(machine, plan, payoffs), pair(amount))
                told.append(amount)
            plan = made_plan(machine, payoffs)
            self.assertIs(is_plan(machine, plan), True)
            self.assertEqual(earned(machine, plan, payoffs), worth(machine, payoffs))
            if len(all_plans(machine)) <= 300:
                self.assertEqual(worth(machine, payoffs), pair(max(told)))

    def test_tables(self):
        chance = random.Random(72)
        for _ in range(200):
            machine = random_machine(chance, chance.randint(1, 30), (0, 1, 2, 63), 6, 5)
            payoffs = payoffs_of(*[chance.randint(-9, 9) for _ in range(64)])
            table = worth_table(machine, payoffs)
            self.assertEqual(table, tuple(pair(amount) for amount in plain_table(machine, payoffs)))
            self.assertEqual(worth(machine, payoffs), table[0])

    def test_the_first_best_place(self):
        machine = (("choice", (1, 2, 3, 4), (0, 2, 0, 1)), ("end", 0), ("end", 1), ("end", 2), ("end", 2))
        self.assertEqual(made_plan(machine, payoffs_of(5, 7, 5))[0], 0)
        self.assertEqual(made_plan(machine, payoffs_of(4, 7, 5))[0], 1)
        self.assertEqual(made_plan(machine, payoffs_of(4, 6, 5))[0], 2)
        self.assertEqual(made_plan(machine, payoffs_of(4, 8, 5))[0], 1)
        self.assertEqual(made_plan(machine, payoffs_of())[0], 0)
        self.assertEqual(made_plan((("choice", (1, 1, 1), (3, 2, 2)), ("end", 0)), payoffs_of()), (1, -1))

    def test_the_first_best_place_behind_chances(self):
        # Both ways are worth 1/2, by different nodes.
        machine = (("choice", (1, 2), (0, 0)), ("chance", (3, 4)), ("chance", (3, 3, 4, 4)), ("end", 0), ("end", 1))
        self.assertEqual(made_plan(machine, payoffs_of(0, 1)), (0, -1, -1, -1, -1))
        machine = (("choice", (1, 2), (0, 0)), ("chance", (3, 4)), ("chance", (3, 4, 4)), ("end", 0), ("end", 1))
        self.assertEqual(made_plan(machine, payoffs_of(0, 1)), (1, -1, -1, -1, -1))

    def test_nodes_that_nobody_reaches(self):
        machine = (("end", 0), ("choice", (2, 3), (1, 0)), ("end", 1), ("end", 2))
        self.assertEqual(worth_table(machine, payoffs_of(1, 9, 7)), ((1, 1), (8, 1), (9, 1), (7, 1)))
        self.assertEqual(made_plan(machine, payoffs_of(1, 9, 7)), (-1, 0, -1, -1))

    def test_great_payoffs_and_prices(self):
        great = 10 ** 9
        self.assertEqual(worth(HALVES, payoffs_of(great, -great)), (0, 1))
        self.assertEqual(worth(HALVES, payoffs_of(-great, -great + 1)), (-2 * great + 1, 2))
        machine = (("choice", (1, 2), (10 ** 6, 0)), ("end", 0), ("end", 1))
        self.assertEqual(worth(machine, payoffs_of(great, 5)), (great - 10 ** 6, 1))
        # Somewhat beyond the bounds nothing fails.
        self.assertEqual(worth(machine, payoffs_of(great + 1, 5)), (great + 1 - 10 ** 6, 1))
        self.assertEqual(worth((("choice", (1,), (10 ** 6,)), ("end", 0)), payoffs_of()), (-10 ** 6, 1))

    def test_many_nodes(self):
        machine = tuple(("chance", (at + 1, 2999, 2999)) if at % 2 else ("choice", (at + 1, 2999), (0, 1)) for at in range(2999))
        machine += (("end", 0),)
        self.assertEqual(worth(machine, payoffs_of(5)), (5, 1))
        machine = tuple(("chance", (at + 1, 2998)) for at in range(2998)) + (("end", 0), ("end", 1))
        self.assertEqual(worth(machine, payoffs_of(0, 1)), (0, 1))
        machine = tuple(("chance", (at + 1, 2998)) for at in range(2997)) + (("choice", (2998, 2999), (0, 0)), ("end", 0), ("end", 1))
        self.assertEqual(worth(machine, payoffs_of(0, 1)), (1, 2 ** 2997))
        self.assertEqual(made_plan(machine, payoffs_of(0, 1))[2997], 1)
        chance = random.Random(73)
        wide = tuple(("chance" if at % 3 else "choice", tuple(chance.randint(at + 1, min(at + 50, 899)) for _ in range(64)))
                     + (() if at % 3 else ((0,) * 64,)) for at in range(899)) + (("end", 1),)
        self.assertEqual(worth(wide, payoffs_of(0, 7)), (7, 1))


if __name__ == "__main__":
    unittest.main()
