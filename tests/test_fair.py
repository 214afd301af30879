"""Points 71 to 73: fairness, gains over told chances, and stakes against deceit."""

import random
import unittest
from fractions import Fraction
from itertools import combinations

from lotshown.errors import Refused, TooMuch
from lotshown.fair import gain, is_fair, is_proof, least_stake
from lotshown.machines import honest_plan, results
from tests.machinery import (EXAMPLE, HALVES, all_plans, pair, payoffs_of, plain_chances, plain_earned, plain_paid, random_machine,
                             told_of)


def free(machine):
    return tuple(node[:2] + ((0,) * len(node[2]),) if node[0] == "choice" else node for node in machine)


def some_told(chance):
    """Return told chances for the results 0, 1 and 2, with small wholes."""
    row = sorted(chance.randint(0, 4) for _ in range(2))
    return told_of(*[pair(Fraction(part, 4)) for part in (row[0], row[1] - row[0], 4 - row[1])])


def plain_gain(machine, told):
    rows = [plain_chances(machine, plan) for plan in all_plans(machine)]
    found = results(machine)
    sets = [some for size in range(len(found) + 1) for some in combinations(found, size)]
    gains = {some: max(sum(row[result] - Fraction(*told[result]) for result in some) for row in rows) for some in sets}
    most = max(gains.values())
    return (pair(most), min(some for some in sets if gains[some] == most))


def few_plans(chance, size, results, most_price=0):
    while True:
        machine = random_machine(chance, chance.randint(1, size), results, most_price)
        if 1 < len(all_plans(machine)) <= 40:
            return machine


class Fairness(unittest.TestCase):
    def test_fair_machines(self):
        half = told_of((1, 2), (1, 2))
        self.assertIs(is_fair(HALVES, half), True)
        self.assertEqual(gain(HALVES, half), ((0, 1), ()))
        # Whatever is chosen, a fair coin comes behind it.
        machine = (("choice", (1, 2), (0, 0)), ("chance", (3, 4)), ("chance", (4, 3)), ("end", 0), ("end", 1))
        self.assertIs(is_fair(machine, half), True)
        self.assertIs(is_fair(machine, told_of((1, 2), (1, 4), (1, 4))), False)
        self.assertEqual(gain(machine, told_of((1, 2), (1, 4), (1, 4))), ((1, 4), (0, 1)))
        self.assertIs(is_fair((("end", 1),), told_of((0, 1), (1, 1))), True)

    def test_unfair_machines(self):
        half = told_of((1, 2), (1, 2))
        self.assertIs(is_fair(HALVES, told_of((1, 3), (2, 3))), False)
        self.assertEqual(gain(HALVES, told_of((1, 3), (2, 3))), ((1, 6), (0,)))
        self.assertEqual(gain(HALVES, told_of((2, 3), (1, 3))), ((1, 6), (1,)))
        late = (("chance", (1, 2)), ("choice", (3, 4), (0, 0)), ("end", 1), ("end", 0), ("end", 1))
        self.assertIs(is_fair(late, half), False)
        self.assertEqual(gain(late, half), ((1, 2), (1,)))
        # The honest plan alone gives the told chances.
        self.assertEqual(plain_chances(late, honest_plan(late))[:2], [Fraction(1, 2)] * 2)
        # A result that the machine does not have was told to have a chance.
        self.assertEqual(gain(HALVES, told_of((0, 1), (0, 1), (1, 1))), ((1, 1), (0, 1)))

    def test_against_all_plans(self):
        chance = random.Random(91)
        fair = 0
        for _ in range(300):
            machine = few_plans(chance, 7, (0, 1, 2))
            told = some_told(chance)
            if chance.randint(0, 1):
                told = tuple(pair(one) for one in plain_chances(machine, honest_plan(machine)))
            right = all(tuple(pair(one) for one in plain_chances(machine, plan)) == told for plan in all_plans(machine))
            self.assertIs(is_fair(machine, told), right)
            self.assertEqual(gain(machine, told), plain_gain(machine, told))
            self.assertEqual(gain(machine, told)[0] == (0, 1), right)
            fair += right
        self.assertTrue(40 < fair < 260)

    def test_the_least_set_with_the_greatest_gain(self):
        # A result that nobody told anything of adds nothing, and the set with it is greater than that without.
        machine = (("choice", (1, 2, 3), (0, 0, 0)), ("end", 3), ("end", 5), ("end", 7))
        self.assertEqual(gain(machine, told_of(*[(0, 1)] * 3, (1, 2), (0, 1), (1, 4), (0, 1), (1, 4))), ((3, 4), (5,)))
        self.assertEqual(gain(machine, told_of((1, 1))), ((1, 1), (3,)))
        self.assertEqual(gain(machine, told_of(*[(0, 1)] * 3, (1, 1))), ((1, 1), (5,)))
        machine = (("chance", (1, 2)), ("end", 3), ("end", 5))
        self.assertEqual(gain(machine, told_of((1, 1))), ((1, 1), (3, 5)))
        machine = (("chance", (1, 2)), ("choice", (3, 4), (0, 0)), ("end", 1), ("end", 2), ("end", 0))
        self.assertEqual(gain(machine, told_of((1, 4), (1, 2), (1, 4))), ((1, 4), (0,)))

    def test_numbers_of_results(self):
        for many in (10, 11, 12):
            machine = (("choice", tuple(range(1, many + 1)), (0,) * many),) + tuple(("end", 2 * at) for at in range(many))
            told = [(0, 1)] * 64
            for at in range(many):
                told[2 * at] = (1, many)
            if many == 10:
                self.assertEqual(gain(machine, tuple(told)), ((9, 10), (0,)))
            else:
                with self.assertRaises(TooMuch):
                    gain(machine, tuple(told))
            self.assertIs(is_fair(machine, tuple(told)), False)

    def test_results_that_nobody_reaches_do_not_count(self):
        machine = (("chance", tuple(range(1, 11))),) + tuple(("end", at) for at in range(10)) + tuple(("end", at) for at in range(20, 40))
        self.assertEqual(gain(machine, ((1, 10),) * 10 + ((0, 1),) * 54), ((0, 1), ()))
        self.assertIs(is_fair(machine, ((1, 10),) * 10 + ((0, 1),) * 54), True)

    def test_the_last_result(self):
        machine = (("chance", (1, 2)), ("end", 0), ("end", 63))
        told = ((1, 2),) + ((0, 1),) * 62 + ((1, 2),)
        self.assertIs(is_fair(machine, told), True)
        self.assertEqual(gain(machine, told), ((0, 1), ()))
        self.assertEqual(gain(machine, ((2, 3),) + told[1:63] + ((1, 3),)), ((1, 6), (63,)))

    def test_prices(self):
        half = told_of((1, 2), (1, 2))
        for machine in (EXAMPLE, (("choice", (1, 2), (1, 0)), ("end", 0), ("end", 1)),
                        (("chance", (1, 2)), ("end", 0), ("end", 1), ("choice", (4,), (5,)), ("end", 1))):
            for function in (is_fair, gain):
                with self.assertRaises(Refused):
                    function(machine, half)

    def test_told_chances_of_any_size(self):
        great = 10 ** 80
        self.assertIs(is_fair(HALVES, told_of((great - 1, 2 * great), (great + 1, 2 * great))), False)
        self.assertEqual(gain(HALVES, told_of(pair(Fraction(great - 1, 2 * great)), pair(Fraction(great + 1, 2 * great)))),
                         ((1, 2 * great), (0,)))

    def test_many_nodes(self):
        nodes = tuple(("choice", (at + 1, at + 1), (0, 0)) for at in range(2989)) + (("chance", tuple(range(2990, 3000))),)
        machine = nodes + tuple(("end", at) for at in range(10))
        self.assertEqual(gain(machine, ((1, 10),) * 10 + ((0, 1),) * 54), ((0, 1), ()))


class Stakes(unittest.TestCase):
    def plain_stake(self, machine, payoffs):
        honest = plain_earned(machine, honest_plan(machine), payoffs)
        least = Fraction(0)
        for plan in all_plans(machine):
            paid = plain_paid(machine, plan)
            more = plain_earned(machine, plan, payoffs) + paid - honest
            if paid == 0 and more > 0:
                return None
            if paid > 0:
                least = max(least, more / paid)
        return pair(least)

    def test_against_all_plans(self):
        chance = random.Random(92)
        kinds = {"none": 0, "nought": 0, "whole": 0, "part": 0}
        for turn in range(700):
            machine = few_plans(chance, 8, (0, 1, 2), 7)
            more = turn % 3
            machine = tuple(node[:2] + ((0,) + tuple(price + more for price in node[2][1:]),) if node[0] == "choice" else node
                            for node in machine)
            payoffs = payoffs_of(*[chance.randint(-9, 9) for _ in range(3)])
            if turn % 2 and all(plain_earned(free(machine), plan, payoffs) <=
                                plain_earned(free(machine), honest_plan(machine), payoffs) for plan in all_plans(machine)):
                continue
            stake = least_stake(machine, payoffs)
            self.assertEqual(stake, self.plain_stake(machine, payoffs))
            kinds["none" if stake is None else "nought" if stake[0] == 0 else "whole" if stake[1] == 1 else "part"] += 1
            best = max(plain_earned(machine, plan, payoffs) for plan in all_plans(machine))
            proof = best == plain_earned(machine, honest_plan(machine), payoffs)
            self.assertIs(is_proof(machine, payoffs), proof)
            self.assertEqual(proof, stake is not None and stake[0] <= stake[1])
        self.assertGreater(min(kinds.values()), 5, kinds)

    def test_by_hand(self):
        self.assertEqual(least_stake(EXAMPLE, payoffs_of(0, 10)), (5, 1))
        self.assertIs(is_proof(EXAMPLE, payoffs_of(0, 10)), False)
        self.assertEqual(least_stake(EXAMPLE, payoffs_of(0, 2)), (1, 1))
        self.assertIs(is_proof(EXAMPLE, payoffs_of(0, 2)), True)
        self.assertEqual(least_stake(EXAMPLE, payoffs_of(0, 1)), (1, 2))
        self.assertEqual(least_stake(EXAMPLE, payoffs_of(1, 0)), (0, 1))
        self.assertEqual(least_stake((("end", 0),), payoffs_of(1)), (0, 1))
        machine = (("choice", (1, 2, 3), (0, 0, 4)), ("end", 0), ("end", 1), ("end", 2))
        self.assertIsNone(least_stake(machine, payoffs_of(0, 1, 9)))
        self.assertEqual(least_stake(machine, payoffs_of(1, 1, 9)), (2, 1))
        self.assertEqual(least_stake(machine, payoffs_of(1, 1, 1)), (0, 1))

    def test_a_plan_that_pays_only_sometimes(self):
        # The greatest quotient is that of a plan that earns less than another one.
        machine = (("choice", (2, 3, 1), (0, 1, 10)), ("end", 2), ("end", 0), ("end", 1))
        self.assertEqual(least_stake(machine, payoffs_of(0, 8, 20)), (8, 1))
        self.assertEqual(least_stake(machine, payoffs_of(0, 1, 20)), (2, 1))

    def test_a_price_at_the_place_0(self):
        for machine in ((("choice", (1, 2), (1, 0)), ("end", 0), ("end", 1)), (("end", 0), ("choice", (2,), (5,)), ("end", 1)),
                        (("choice", (1, 2), (0, 9)), ("choice", (2,), (1,)), ("end", 1))):
            with self.assertRaises(Refused):
                least_stake(machine, payoffs_of(1, 2))
            self.assertIn(is_proof(machine, payoffs_of(1, 2)), (True, False))
        machine = (("choice", (1, 2), (3, 0)), ("end", 0), ("end", 1))
        self.assertIs(is_proof(machine, payoffs_of(3, 0)), True)
        self.assertIs(is_proof(machine, payoffs_of(2, 0)), False)
        self.assertIs(is_proof(machine, payoffs_of(9, 0)), True)


if __name__ == "__main__":
    unittest.main()
