"""Points 85 to 87: schemes, coalitions, and their machines."""

import unittest
from itertools import permutations

from lotshown.errors import TooMuch
from lotshown.machines import chances, honest_plan, is_machine, is_told
from lotshown.schemes import even_chances, is_coalition, is_scheme, machine_of
from tests.kinds import ODD_VALUES
from tests.plainly import all_coalitions, plain_machine, plain_states

TURNS = ("turns", 2, (0, 1, 2), ())


class Schemes(unittest.TestCase):
    def test_all_ways(self):
        for size in (2, 3, 11, 12):
            for n in range(1, 7):
                for order in (tuple(range(n)), tuple(range(n))[::-1]):
                    for way, rest in (("turns", ()), ("beacon", ()), ("shares", (1,)), ("shares", (n,)), ("again", (1, 0)),
                                      ("again", (3, 10 ** 6)), ("again", (2, 5))):
                        self.assertIs(is_scheme((way, size, order, rest)), True)

    def test_sizes(self):
        for size, right in ((1, False), (0, False), (-2, False), (2, True), (12, True), (13, False), (True, False), (2.0, False),
                            ("2", False), (None, False), ((2,), False)):
            self.assertIs(is_scheme(("turns", size, (0, 1), ())), right)

    def test_orders(self):
        for order in permutations(range(4)):
            self.assertIs(is_scheme(("turns", 2, order, ())), True)
        for wrong in ((), (1,), (0, 2), (1, 2), (0, 0), (0, 1, 1), (0, 1, 2, 2), (-1, 0), (0, -1), tuple(range(7)), [0, 1], (0, True),
                      (False, 1), (0, "1"), (0, 1.0), (0, None), (0, (1,)), None, 0, "01", {0: 1}):
            self.assertIs(is_scheme(("turns", 2, wrong, ())), False, wrong)
        self.assertIs(is_scheme(("turns", 2, (5, 4, 3, 2, 1, 0), ())), True)

    def test_rests(self):
        for way, rest, right in (
            ("turns", (1,), False), ("turns", [], False), ("turns", None, False), ("turns", 0, False), ("beacon", (1,), False),
            ("beacon", None, False), ("beacon", [], False), ("shares", (), False), ("shares", (0,), False), ("shares", (4,), False),
            ("shares", (3,), True), ("shares", (1,), True), ("shares", (True,), False), ("shares", (1.0,), False),
            ("shares", (1, 0), False), ("shares", [1], False), ("shares", 1, False), ("shares", (None,), False),
            ("again", (), False), ("again", (1,), False), ("again", (0, 0), False), ("again", (4, 0), False), ("again", (3, 0), True),
            ("again", (1, -1), False), ("again", (1, 10 ** 6), True), ("again", (1, 10 ** 6 + 1), False), ("again", (True, 0), False),
            ("again", (1, False), False), ("again", (1, 0, 0), False), ("again", [1, 0], False), ("again", (1, None), False),
        ):
            self.assertIs(is_scheme((way, 2, (2, 0, 1), rest)), right, (way, rest))

    def test_ways_and_other_kinds(self):
        for way in ("turn", "Turns", "", None, 0, True, ("turns",), b"turns", ["turns"]):
            self.assertIs(is_scheme((way, 2, (0, 1), ())), False)
        for value in ODD_VALUES + (list(TURNS), TURNS[:3], TURNS + ((),)):
            self.assertIs(is_scheme(value), False)

    def test_coalitions(self):
        for coalition in all_coalitions(3):
            self.assertIs(is_coalition(TURNS, coalition), True)
        for wrong in ((1, 0), (0, 0), (0, 1, 1), (3,), (0, 3), (-1,), (-1, 0), [0], [], None, 0, "0", (True,), (0, True), (0.0,), ("0",),
                      (None,), ((0,),), {0: 1}):
            self.assertIs(is_coalition(TURNS, wrong), False, wrong)
        right = ((), (1,), (1, 2), (0, 2))
        for value in ODD_VALUES:
            self.assertIs(is_coalition(TURNS, value), value in right and type(value) is tuple and True not in
                          [type(part) is bool for part in value])

    def test_even_chances(self):
        for size in (2, 3, 12):
            told = even_chances(("turns", size, (0,), ()))
            self.assertEqual(told, ((1, size),) * size + ((0, 1),) * (64 - size))
            self.assertIs(is_told(told), True)


class Machines(unittest.TestCase):
    def test_turns(self):
        self.assertEqual(machine_of(("turns", 2, (0, 1), ()), (1,)), (
            ("chance", (1, 2)), ("chance", (3, 4)), ("chance", (5, 6)),
            ("choice", (7, 7), (0, 0)), ("choice", (8, 8), (0, 0)), ("choice", (8, 7), (0, 0)), ("choice", (7, 8), (0, 0)),
            ("end", 0), ("end", 1)))
        self.assertEqual(machine_of(("turns", 3, (0,), ()), ()), (("chance", (1, 2, 3)), ("end", 0), ("end", 1), ("end", 2)))
        self.assertEqual(machine_of(("turns", 2, (0,), ()), (0,)), (
            ("chance", (1, 2)), ("choice", (3, 3), (0, 0)), ("choice", (4, 3), (0, 0)), ("end", 0), ("end", 1)))
        # The order tells who reveals first: the member, and then the honest party.
        self.assertEqual(machine_of(("turns", 2, (1, 0), ()), (1,)), (
            ("chance", (1, 2)), ("choice", (3, 3), (0, 0)), ("choice", (4, 3), (0, 0)), ("chance", (5, 6)), ("chance", (6, 5)),
            ("end", 0), ("end", 1)))

    def test_shares(self):
        # One honest party is enough to open.
        self.assertEqual(machine_of(("shares", 2, (1, 0), (1,)), (1,)), (
            ("chance", (1, 2)), ("choice", (3, 3), (0, 0)), ("choice", (4, 4), (0, 0)), ("chance", (5, 6)), ("chance", (6, 5)),
            ("end", 0), ("end", 1)))
        # And here two are needed: the ends behind a last choice stand at another place than those ahead of it.
        self.assertEqual(machine_of(("shares", 2, (0, 1), (2,)), (1,)), (
            ("chance", (1, 2)), ("chance", (3, 4)), ("chance", (5, 6)),
            ("choice", (7, 8), (0, 0)), ("choice", (9, 10), (0, 0)), ("choice", (9, 11), (0, 0)), ("choice", (7, 12), (0, 0)),
            ("end", 0), ("choice", (13, 13), (0, 0)), ("end", 1), ("choice", (14, 14), (0, 0)), ("choice", (14, 13), (0, 0)),
            ("choice", (13, 14), (0, 0)), ("end", 0), ("end", 1)))

    def test_again(self):
        self.assertEqual(machine_of(("again", 2, (0,), (1, 7)), (0,)), (
            ("chance", (1, 2)), ("choice", (3, 5), (0, 7)), ("choice", (4, 5), (0, 7)), ("end", 0), ("end", 1),
            ("chance", (6, 7)), ("choice", (8, 8), (0, 7)), ("choice", (9, 8), (0, 7)), ("end", 0), ("end", 1)))
        # With nobody to withhold, no second draw is met.
        self.assertEqual(machine_of(("again", 2, (0,), (3, 7)), ()), (("chance", (1, 2)), ("end", 0), ("end", 1)))

    def test_beacon(self):
        self.assertEqual(machine_of(("beacon", 2, (0,), ()), (0,)), (
            ("chance", (1, 2)), ("choice", (3, 3), (0, 0)), ("choice", (4, 3), (0, 0)), ("chance", (5, 6)), ("chance", (6, 5)),
            ("end", 0), ("end", 1)))

    def test_withheld_values_of_two_members(self):
        # What a member withheld is another state than the same value withheld by the other one.
        machine = machine_of(("shares", 2, (2, 0, 1), (2,)), (0, 2))
        self.assertEqual(machine, plain_machine(("shares", 2, (2, 0, 1), (2,)), (0, 2)))
        self.assertEqual(len([node for node in machine if node[0] == "choice"]), 4 + 8 + (4 + 4 + 8) + 4)

    def test_against_a_plain_way(self):
        for size, n in ((2, 1), (2, 2), (2, 3), (3, 2), (5, 1), (3, 3)):
            for order in permutations(range(n)):
                for way, rest in [("turns", ()), ("beacon", ()), ("again", (1, 5)), ("again", (2, 0))] + [
                        ("shares", (t,)) for t in range(1, n + 1)]:
                    for coalition in all_coalitions(n):
                        scheme = (way, size, order, rest)
                        machine = machine_of(scheme, coalition)
                        self.assertEqual(machine, plain_machine(scheme, coalition))
                        self.assertIs(is_machine(machine), True)
                        told = chances(machine, honest_plan(machine))
                        self.assertEqual(told, even_chances(scheme))

    def test_too_much(self):
        # This machine has just 3000 nodes, and the next one would have 3001.
        scheme, coalition = ("again", 9, (0, 1, 2, 3, 4), (2, 0)), (1, 3)
        self.assertEqual((len(machine_of(scheme, coalition)), len(plain_states(scheme, coalition, 4000))), (3000, 3000))
        scheme, coalition = ("shares", 5, (0, 1, 2, 3), (4,)), (0, 1, 3)
        self.assertEqual(len(plain_states(scheme, coalition, 4000)), 3001)
        with self.assertRaises(TooMuch):
            machine_of(scheme, coalition)
        everybody = (0, 1, 2, 3, 4, 5)
        for scheme, coalition in ((("turns", 12, everybody, ()), everybody), (("again", 12, everybody, (3, 0)), (0, 5)),
                                  (("shares", 12, everybody, (6,)), (0, 1, 2, 3, 4)), (("beacon", 12, (3, 2, 1, 0), ()), (0, 1, 2, 3))):
            with self.assertRaises(TooMuch):
                machine_of(scheme, coalition)

    def test_too_much_just_where_it_is_due(self):
        below = above = 0
        for way, rest in (("turns", ()), ("beacon", ()), ("again", (1, 0)), ("again", (3, 0)), ("shares", (2,)), ("shares", (3,))):
            for size in range(2, 13):
                for coalition in ((0, 1), (1, 2), (0, 1, 2)):
                    scheme = (way, size, (0, 1, 2), rest)
                    many = len(plain_states(scheme, coalition, 3400))
                    if many > 3000:
                        above += 1
                        with self.assertRaises(TooMuch):
                            machine_of(scheme, coalition)
                    else:
                        below += 1
                        self.assertEqual(len(machine_of(scheme, coalition)), many)
        self.assertGreater(below, 50)
        self.assertGreater(above, 15)


if __name__ == "__main__":
    unittest.main()
