"""Points 65, 66, 71 and 74: machines, plans, payoffs, told chances, and machines that unfold alike."""

import random
import unittest
from fractions import Fraction

from lotshown.machines import (chances, honest_plan, is_machine, is_payoffs, is_plan, is_told, results, trimmed)
from lotshown.values import worth
from tests.kinds import ODD_VALUES
from tests.machinery import (EXAMPLE, HALVES, all_plans, pair, payoffs_of, plain_chances, plain_trimmed, random_machine, told_of,
                             tree)


def chain(size):
    """Return a machine of so many nodes, one behind the other."""
    return tuple(("chance", (at + 1,)) for at in range(size - 1)) + (("end", 7),)


class Machines(unittest.TestCase):
    def test_machines(self):
        for value in (HALVES, EXAMPLE, (("end", 0),), (("end", 63),), (("end", 5), ("end", 6)), chain(3000),
                      (("choice", (1,), (0,)), ("end", 0)), (("choice", (1, 1, 2), (0, 10 ** 6, 5)), ("end", 0), ("end", 0))):
            self.assertIs(is_machine(value), True)

    def test_results_of_ends(self):
        for result in (-1, 64, 65, True, False, None, 1.0, "1", (1,), [1]):
            self.assertIs(is_machine((("end", result),)), False)

    def test_next_nodes(self):
        ends = (("end", 0), ("end", 1))
        for word, prices in (("chance", None), ("choice", (0, 0))):
            for nexts, right in (((1, 2), True), ((2, 1), True), ((1, 1), True), ((0, 1), False), ((1, 3), False), ((1, 0), False),
                                 ((-1, 1), False), ((True, 2), False), ((1, None), False), ((1, "2"), False), ((1, 2.0), False),
                                 ([1, 2], False), ((1, (2,)), False), ("12", False), (None, False), (1, False), (12, False)):
                node = (word, nexts) if prices is None else (word, nexts, prices)
                self.assertIs(is_machine((node,) + ends), right, node)
        # A node that leads to itself, or to an earlier one, behind the start.
        for nexts, right in (((2,), True), ((3,), True), ((1,), False), ((0,), False), ((4,), False)):
            self.assertIs(is_machine((("chance", (1, 2)), ("chance", nexts)) + ends), right)
            self.assertIs(is_machine((("chance", (1, 2)), ("choice", nexts, (0,))) + ends), right)

    def test_numbers_of_places(self):
        for many, right in ((0, False), (1, True), (2, True), (64, True), (65, False), (66, False)):
            self.assertIs(is_machine((("chance", (1,) * many), ("end", 0))), right)
            self.assertIs(is_machine((("choice", (1,) * many, (0,) * many), ("end", 0))), right)
            nexts = tuple(range(1, many + 1))
            self.assertIs(is_machine((("chance", nexts),) + (("end", 3),) * many), right)

    def test_prices(self):
        for prices, right in (((0, 0), True), ((10 ** 6, 0), True), ((0, 10 ** 6), True), ((10 ** 6 + 1, 0), False),
                              ((0, 10 ** 6 + 1), False), ((-1, 0), False), ((0, -1), False), ((0,), False), ((0, 0, 0), False),
                              ((), False), ([0, 0], False), ((True, 0), False), ((0, False), False), ((0, None), False),
                              ((0, 0.0), False), ((0, "0"), False), (None, False), (0, False)):
            self.assertIs(is_machine((("choice", (1, 1), prices), ("end", 0))), right, prices)

    def test_numbers_of_nodes(self):
        for size, right in ((1, True), (2, True), (2999, True), (3000, True), (3001, False)):
            self.assertIs(is_machine(chain(size)), right)
        self.assertIs(is_machine(()), False)

    def test_nodes_that_are_none(self):
        for node in ODD_VALUES + (("end",), ("end", 0, 0), ("chance",), ("chance", (1,), (0,)), ("choice", (1,)), ("choice",),
                                  ("choice", (1,), (0,), 0), ["end", 0], ["chance", (1,)], ("ends", 0), ("End", 0), (None, 0),
                                  (b"end", 0), ("choose", (1,), (0,)), ("chances", (1,)), (("end",), 0), (0, "end")):
            self.assertIs(is_machine((node, ("end", 0))), False, node)
            self.assertIs(is_machine((("end", 0), node)), False, node)

    def test_other_kinds(self):
        for value in ODD_VALUES + ([("end", 0)], list(HALVES), ("end", 0), "end", {0: ("end", 0)}):
            self.assertIs(is_machine(value), False)


class Plans(unittest.TestCase):
    MACHINE = (("choice", (1, 2, 3), (0, 0, 0)), ("chance", (3, 3)), ("choice", (3,), (0,)), ("end", 0))

    def test_plans(self):
        for places in ((0, 0), (1, 0), (2, 0)):
            self.assertIs(is_plan(self.MACHINE, (places[0], -1, places[1], -1)), True)

    def test_no_plans(self):
        for wrong in ((3, -1, 0, -1), (-1, -1, 0, -1), (0, -1, 1, -1), (0, -1, -1, -1), (0, 0, 0, -1), (0, -1, 0, 0), (0, -1, 0),
                      (0, -1, 0, -1, -1), (), [0, -1, 0, -1], (False, -1, 0, -1), (True, -1, 0, -1), (0, -1, False, -1),
                      (0, None, 0, -1), (None, -1, 0, -1), (0.0, -1, 0, -1), (0, -1.0, 0, -1), ("0", -1, 0, -1), (0, -2, 0, -1)):
            self.assertIs(is_plan(self.MACHINE, wrong), False, wrong)
        for value in ODD_VALUES:
            self.assertIs(is_plan(self.MACHINE, value), False)

    def test_places_up_to_64(self):
        machine = (("choice", (1,) * 64, (0,) * 64), ("end", 0))
        self.assertEqual([is_plan(machine, (place, -1)) for place in (0, 63, 64)], [True, True, False])

    def test_the_honest_plan(self):
        self.assertEqual(honest_plan(self.MACHINE), (0, -1, 0, -1))
        self.assertEqual(honest_plan(EXAMPLE), (-1, 0, -1, -1, -1, -1, -1))
        self.assertEqual(honest_plan((("end", 3),)), (-1,))
        self.assertIs(is_plan(EXAMPLE, honest_plan(EXAMPLE)), True)


class PayoffsAndTold(unittest.TestCase):
    def test_payoffs(self):
        for value, right in (((0,) * 64, True), ((10 ** 9,) * 64, True), ((-10 ** 9,) * 64, True), ((0,) * 63, False),
                             ((0,) * 65, False), ((10 ** 9 + 1,) + (0,) * 63, False), ((0,) * 63 + (-10 ** 9 - 1,), False),
                             ([0] * 64, False), ((0,) * 63 + (True,), False), ((0,) * 63 + (None,), False), ((), False),
                             ((0.0,) + (0,) * 63, False), (("1",) + (0,) * 63, False), ("a" * 64, False)):
            self.assertIs(is_payoffs(value), right)
        for value in ODD_VALUES:
            self.assertIs(is_payoffs(value), False)

    def test_told_chances(self):
        great = 10 ** 80
        for value, right in (
            (told_of((1, 1)), True), (told_of((1, 2), (1, 2)), True), (told_of((1, 3), (1, 6), (1, 2)), True),
            (told_of((0, 1), (1, 1)), True), (told_of((1, great), (great - 1, great)), True), (((1, 64),) * 64, True),
            (told_of((1, 2), (1, 3)), False), (told_of((1, 2), (1, 2), (1, 2)), False), (told_of(), False), (told_of((2, 1)), False),
            (told_of((3, 2), (-1, 2)), False), (told_of((2, 4), (1, 2)), False), (told_of((1, 1), (0, 2)), False),
            (told_of((-1, -1)), False), (told_of((True, 1)), False), (told_of((1, True)), False), (told_of([1, 1]), False),
            (told_of((1, 1), None), False), (told_of((1, 1), 0), False), (told_of((1,)), False), (told_of((1, 1, 1)), False),
            (told_of((1, 2), (1, 2))[:63], False), (told_of((1, 2), (1, 2)) + ((0, 1),), False), (list(told_of((1, 1))), False),
            (told_of((1, 0)), False), (told_of((1.0, 1)), False), (told_of(("1", 1)), False),
        ):
            self.assertIs(is_told(value), right, value)
        for value in ODD_VALUES:
            self.assertIs(is_told(value), False)


class Chances(unittest.TestCase):
    def test_the_example(self):
        self.assertEqual(chances(EXAMPLE, honest_plan(EXAMPLE))[:2], ((1, 2), (1, 2)))
        self.assertEqual(chances(EXAMPLE, (-1, 1) + (-1,) * 5)[:3], ((1, 4), (3, 4), (0, 1)))

    def test_against_all_courses(self):
        chance = random.Random(61)
        for _ in range(60):
            machine = random_machine(chance, chance.randint(2, 9), (0, 1, 5, 63))
            for plan in all_plans(machine)[:40]:
                found = chances(machine, plan)
                self.assertEqual(found, tuple(pair(one) for one in plain_chances(machine, plan)))
                self.assertIsInstance(found, tuple)
                self.assertEqual(sum(Fraction(*one) for one in found), 1)

    def test_ways_that_join_again(self):
        machine = (("chance", (1, 2, 2)), ("chance", (3, 4)), ("chance", (3, 3, 5)), ("chance", (4, 5)), ("end", 1), ("end", 2))
        self.assertEqual(chances(machine, (-1,) * 6)[1:3], ((17, 36), (19, 36)))

    def test_nodes_that_nobody_reaches(self):
        machine = (("choice", (2, 3), (0, 0)), ("chance", (2, 3)), ("end", 4), ("end", 5), ("end", 6))
        self.assertEqual(results(machine), [4, 5])
        self.assertEqual(chances(machine, (1, -1, -1, -1, -1))[4:7], ((0, 1), (1, 1), (0, 1)))
        self.assertEqual(trimmed(machine), (("choice", (1, 2), (0, 0)), ("end", 4), ("end", 5)))

    def test_one_end(self):
        self.assertEqual(chances((("end", 63),), (-1,)), ((0, 1),) * 63 + ((1, 1),))
        self.assertEqual(chances((("end", 0), ("end", 1)), (-1, -1))[:2], ((1, 1), (0, 1)))
        self.assertEqual(results((("end", 9), ("end", 1))), [9])

    def test_many_nodes(self):
        machine = tuple(("chance", (at + 1, 2999, at + 1)) for at in range(2998)) + (("end", 1), ("end", 2))
        found = chances(machine, (-1,) * 3000)
        self.assertEqual(found[1], (2 ** 2998, 3 ** 2998))
        self.assertEqual(found[2], (3 ** 2998 - 2 ** 2998, 3 ** 2998))

    def test_results(self):
        self.assertEqual(results(HALVES), [0, 1])
        machine = (("chance", (4, 3, 2, 1)), ("end", 7), ("end", 3), ("end", 7), ("end", 0))
        self.assertEqual(results(machine), [0, 3, 7])
        results(machine).clear()
        self.assertEqual(results(machine), [0, 3, 7])


class Trimmed(unittest.TestCase):
    def test_by_hand(self):
        # The ends are farthest at the distance 3; of both, that with the result 1 is met first, from the start.
        self.assertEqual(trimmed(EXAMPLE), (("chance", (1, 3)), ("choice", (4, 2), (0, 1)), ("chance", (4, 3)), ("end", 1), ("end", 0)))
        self.assertEqual(trimmed((("chance", (2, 1)), ("end", 0), ("end", 1))), (("chance", (1, 2)), ("end", 1), ("end", 0)))
        self.assertEqual(trimmed((("chance", (1, 2)), ("end", 5), ("end", 5))), (("chance", (1, 1)), ("end", 5)))

    def test_against_all_ways(self):
        chance = random.Random(62)
        smaller = 0
        for _ in range(400):
            machine = random_machine(chance, chance.randint(1, 10), (0, 1), 1, 2)
            trim = trimmed(machine)
            self.assertEqual(trim, plain_trimmed(machine))
            self.assertIs(is_machine(trim), True)
            self.assertEqual(tree(trim), tree(machine))
            self.assertEqual(trimmed(trim), trim)
            payoffs = payoffs_of(*[chance.randint(-9, 9) for _ in range(64)])
            self.assertEqual(worth(trim, payoffs), worth(machine, payoffs))
            smaller += len(trim) < len(machine)
        self.assertGreater(smaller, 100)

    def test_machines_unfold_alike_exactly_if_trimmed_ones_are_equal(self):
        chance = random.Random(63)
        machines = [random_machine(chance, chance.randint(1, 4), (0, 1), 1, 2) for _ in range(120)]
        alike = 0
        for one in machines:
            for other in machines:
                self.assertEqual(trimmed(one) == trimmed(other), tree(one) == tree(other))
                alike += one != other and tree(one) == tree(other)
        self.assertGreater(alike, 10)

    def test_one_difference(self):
        one = (("chance", (1, 2)), ("choice", (2, 3), (0, 5)), ("end", 0), ("end", 1))
        same = (("chance", (1, 4)), ("choice", (2, 3), (0, 5)), ("end", 0), ("end", 1), ("end", 0))
        self.assertEqual(trimmed(one), trimmed(same))
        for other in ((("chance", (1, 2)), ("choice", (2, 3), (0, 5)), ("end", 0), ("end", 2)),
                      (("chance", (1, 2)), ("choice", (2, 3), (0, 6)), ("end", 0), ("end", 1)),
                      (("chance", (1, 2)), ("choice", (3, 2), (0, 5)), ("end", 0), ("end", 1)),
                      (("chance", (1, 3)), ("choice", (2, 3), (0, 5)), ("end", 0), ("end", 1)),
                      (("chance", (1, 2, 2)), ("choice", (2, 3), (0, 5)), ("end", 0), ("end", 1)),
                      (("chance", (1, 2)), ("chance", (2, 3)), ("end", 0), ("end", 1))):
            self.assertNotEqual(trimmed(one), trimmed(other))

    def test_many_nodes(self):
        # As a tree, this machine has 2^1499 ends.
        machine = tuple(("chance", (at + 1, at + 2)) for at in range(1498)) + (("end", 0), ("end", 1))
        self.assertEqual(trimmed(machine), trimmed(machine + (("end", 2),)))
        self.assertEqual(len(trimmed(machine)), 1500)
        twice = tuple(("chance", (2 * at + 3, 2 * at + 2)) if side else ("chance", (2 * at + 2, 2 * at + 3))
                      for at in range(1499) for side in (0, 1)) + (("end", 0), ("end", 0))
        self.assertIs(is_machine(twice), True)
        self.assertEqual(trimmed(twice), tuple(("chance", (at + 1, at + 1)) for at in range(1499)) + (("end", 0),))


if __name__ == "__main__":
    unittest.main()
