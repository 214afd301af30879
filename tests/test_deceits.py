"""Points 93 and 94: the best deceits, and plans that are played on values."""

import random
import unittest
from fractions import Fraction
from itertools import combinations, permutations, product

from lotshown.deceits import best_deceit, counted, play
from lotshown.errors import Malformed, TooMuch
from lotshown.fair import payoffs_of
from lotshown.machines import chances, honest_plan, is_plan
from lotshown.schemes import machine_of
from lotshown.tails import greatest_chance
from lotshown.values import earned, made_plan
from tests.kinds import ODD_VALUES
from tests.machinery import pair
from tests.plainly import all_coalitions, all_values, plain_order, plain_play


def schemes_of(size, order, stake):
    n = len(order)
    return [("turns", size, order, ()), ("beacon", size, order, ()), ("again", size, order, (1, stake))] + [
        ("shares", size, order, (t,)) for t in range(1, n + 1)]


def any_plan(chance, machine):
    return tuple(chance.randint(0, len(node[1]) - 1) if node[0] == "choice" else -1 for node in machine)


def taken(machine, *words):
    """Return the plan that takes the places of the words one behind the other at all choices of a way, here by the number."""
    return tuple(words[0] if node[0] == "choice" else -1 for node in machine)


class BestDeceits(unittest.TestCase):
    def test_greatest_chances(self):
        for size, n in ((2, 1), (2, 2), (3, 2), (2, 3)):
            wanted_sets = [some for many in range(size + 1) for some in combinations(range(size), many)]
            for order in permutations(range(n)):
                for scheme, coalition, wanted in product(schemes_of(size, order, 5), all_coalitions(n), wanted_sets):
                    plan, chance = best_deceit(scheme, coalition, wanted)
                    machine = machine_of(scheme, coalition)
                    self.assertIs(is_plan(machine, plan), True)
                    self.assertEqual(chance, greatest_chance(scheme, coalition, wanted))
                    self.assertEqual(chance, pair(sum(Fraction(*chances(machine, plan)[result]) for result in wanted)))

    def test_it_is_the_made_plan_without_a_stake(self):
        for stake in (0, 1, 10 ** 6):
            scheme = ("again", 3, (1, 0), (2, stake))
            free = machine_of(("again", 3, (1, 0), (2, 0)), (0,))
            plan, chance = best_deceit(scheme, (0,), (1,))
            self.assertEqual(plan, made_plan(free, payoffs_of((1,))))
            self.assertEqual(chance, earned(free, plan, payoffs_of((1,))))
            self.assertGreater(Fraction(*chance), Fraction(1, 3))

    def test_too_much(self):
        everybody = (0, 1, 2, 3, 4, 5)
        for way, rest in (("turns", ()), ("beacon", ()), ("again", (1, 0)), ("shares", (6,))):
            with self.assertRaises(TooMuch):
                best_deceit((way, 12, everybody, rest), everybody, (0,))


class Playing(unittest.TestCase):
    def test_the_honest_plan_tells_the_sum(self):
        for scheme, coalition in product(schemes_of(3, (1, 2, 0), 5), all_coalitions(3)):
            plan = honest_plan(machine_of(scheme, coalition))
            for values in all_values(scheme)[::7]:
                record, result = play(scheme, coalition, plan, values)
                deeds = [("reveals", party, values[0][party]) for party in (1, 2, 0)]
                late = values[-1] if scheme[0] == "beacon" else 0
                self.assertEqual(record, deeds + ([("beacon", late)] if scheme[0] == "beacon" else []))
                self.assertEqual(result, (sum(values[0]) + late) % 3)

    def test_records_by_hand(self):
        turns = ("turns", 3, (2, 0, 1), ())
        silent = taken(machine_of(turns, (1, 2)), 1)
        self.assertEqual(play(turns, (1, 2), silent, [(2, 1, 2)]), ([("withholds", 2), ("reveals", 0, 2), ("withholds", 1)], 2))
        beacon = ("beacon", 3, (2, 0, 1), ())
        silent = taken(machine_of(beacon, (1, 2)), 1)
        self.assertEqual(play(beacon, (1, 2), silent, [(2, 1, 2), 2]),
                         ([("withholds", 2), ("reveals", 0, 2), ("withholds", 1), ("beacon", 2)], 1))

    def test_records_by_shares(self):
        # One honest party is enough: what is withheld is opened, ascending by the parties.
        shares = ("shares", 3, (2, 0, 1), (1,))
        silent = taken(machine_of(shares, (1, 2)), 1)
        self.assertEqual(play(shares, (1, 2), silent, [(2, 1, 2)]),
                         ([("withholds", 2), ("reveals", 0, 2), ("withholds", 1), ("opened", 1, 1), ("opened", 2, 2)], 2))
        # Two are needed: the coalition opens nothing, or all.
        shares = ("shares", 3, (2, 0, 1), (2,))
        machine = machine_of(shares, (1, 2))
        self.assertEqual(play(shares, (1, 2), taken(machine, 1), [(2, 1, 2)]),
                         ([("withholds", 2), ("reveals", 0, 2), ("withholds", 1)], 2))
        order = plain_order(shares, (1, 2))
        for places, opened, result in (((0, 0), [("opened", 1, 1), ("opened", 2, 2)], 2), ((0, 1), [("opened", 1, 1)], 0),
                                       ((1, 0), [("opened", 2, 2)], 1), ((1, 1), [], 2)):
            plan = tuple(-1 if node[0] != "choice" else 1 if state[1] < 5 else places[state[1] - 5]
                         for node, state in zip(machine, order))
            self.assertEqual(play(shares, (1, 2), plan, [(2, 1, 2)]),
                             ([("withholds", 2), ("reveals", 0, 2), ("withholds", 1)] + opened, result))

    def test_records_of_void_draws(self):
        again = ("again", 3, (2, 0, 1), (2, 5))
        machine = machine_of(again, (0, 1))
        silent = taken(machine, 1)
        values = [(0, 1, 2), (1, 1, 1), (2, 2, 1)]
        self.assertEqual(play(again, (0, 1), silent, values), (
            [("reveals", 2, 2), ("withholds", 0), ("void",), ("reveals", 2, 1), ("withholds", 0), ("void",),
             ("reveals", 2, 1), ("withholds", 0), ("withholds", 1)], 1))
        # Only the last one of the order withholds, and only in the draw 0.
        order = plain_order(again, (0, 1))
        late = tuple(-1 if node[0] != "choice" else int(state[:2] == (0, 4)) for node, state in zip(machine, order))
        self.assertEqual(play(again, (0, 1), late, values), (
            [("reveals", 2, 2), ("reveals", 0, 0), ("withholds", 1), ("void",), ("reveals", 2, 1), ("reveals", 0, 1), ("reveals", 1, 1)],
            0))

    def test_against_a_plain_way(self):
        chance = random.Random(111)
        for scheme in schemes_of(2, (1, 2, 0), 5) + schemes_of(3, (0, 1), 5) + [("again", 2, (1, 0), (3, 5)), ("shares", 2, (2, 0, 1), (3,))]:
            for coalition in all_coalitions(len(scheme[2])):
                machine = machine_of(scheme, coalition)
                order = plain_order(scheme, coalition)
                for _ in range(4):
                    plan = any_plan(chance, machine)
                    values = chance.choice(all_values(scheme))
                    kept = list(values)
                    self.assertEqual(play(scheme, coalition, plan, values), plain_play(scheme, coalition, order, plan, values))
                    self.assertEqual(values, kept)

    def test_wrong_values(self):
        plans = {scheme: honest_plan(machine_of(scheme, (1,))) for scheme in
                 (("turns", 3, (0, 1), ()), ("shares", 3, (0, 1), (2,)), ("again", 3, (0, 1), (1, 5)), ("beacon", 3, (0, 1), ()))}
        rights = {"turns": [(2, 1)], "shares": [(2, 1)], "again": [(2, 1), (0, 2)], "beacon": [(2, 1), 2]}
        for scheme, plan in plans.items():
            right = rights[scheme[0]]
            self.assertEqual(play(scheme, (1,), plan, right)[1], 2 if scheme[0] == "beacon" else 0)
            wrongs = [tuple(right), [], right + [(0, 1)], right + [1], right[:-1], {0: (2, 1)}, (2, 1), [2, 1], "21", [None] * len(right)]
            for number in (3, -1, True, None, 1.0, "1", (1,)):
                wrongs += [[(number, 1)] + right[1:], [(2, number)] + right[1:]]
            wrongs += [[(2,)] + right[1:], [(2, 1, 0)] + right[1:], [()] + right[1:], [[2, 1]] + right[1:]]
            if scheme[0] == "beacon":
                wrongs += [[(2, 1), wrong] for wrong in (3, -1, True, None, (1,), "1", 1.0, [1])] + [[(2, 1)], [1, (2, 1)], [(2, 1), (2, 1)]]
            if scheme[0] == "again":
                wrongs += [[(2, 1), wrong] for wrong in (None, (3, 1), (1,), [0, 1], 1, (0, True), (0, -1))] + [[(2, 1)], [(2, 1)] * 3]
            for wrong in wrongs + list(ODD_VALUES):
                with self.assertRaises(Malformed, msg=(scheme, wrong)):
                    play(scheme, (1,), plan, wrong)


class Counting(unittest.TestCase):
    def test_against_chances(self):
        chance = random.Random(112)
        for scheme in schemes_of(2, (1, 2, 0), 5) + schemes_of(3, (0, 1), 5) + [("again", 2, (1, 0), (3, 5)), ("turns", 12, (0,), ()),
                                                                                 ("beacon", 12, (0, 1), ())]:
            for coalition in all_coalitions(len(scheme[2])):
                machine = machine_of(scheme, coalition)
                wanted = tuple(sorted(chance.sample(range(scheme[1]), chance.randint(1, scheme[1] - 1))))
                for plan in (any_plan(chance, machine), honest_plan(machine), best_deceit(scheme, coalition, wanted)[0]):
                    told = chances(machine, plan)
                    self.assertEqual(counted(scheme, coalition, plan, wanted), pair(sum(Fraction(*told[result]) for result in wanted)))
                self.assertEqual(counted(scheme, coalition, plan, wanted), greatest_chance(scheme, coalition, wanted))
                self.assertEqual(counted(scheme, coalition, plan, ()), (0, 1))
                self.assertEqual(counted(scheme, coalition, plan, tuple(range(scheme[1]))), (1, 1))

    def test_too_many_values(self):
        # 5^5 = 3125, 3^7 = 2187, 7^4 = 2401, 8^4 = 4096, 2^11 = 2048 and 2^12 = 4096 values.
        for scheme, right in ((("turns", 5, (0, 1, 2, 3, 4), ()), False), (("turns", 4, (0, 1, 2, 3, 4), ()), True),
                              (("beacon", 3, (0, 1, 2, 3, 4, 5), ()), True), (("beacon", 8, (0, 1, 2), ()), False),
                              (("beacon", 7, (0, 1, 2), ()), True), (("shares", 8, (0, 1, 2, 3), (2,)), False),
                              (("shares", 7, (0, 1, 2, 3), (2,)), True), (("again", 7, (0, 1), (1, 0)), True),
                              (("again", 8, (0, 1), (1, 0)), False), (("again", 2, (0, 1, 2, 3), (2, 0)), False),
                              (("again", 2, (0, 1, 2), (2, 0)), True), (("again", 2, (0, 1, 2), (3, 0)), False)):
            plan = honest_plan(machine_of(scheme, (0,)))
            if right:
                self.assertEqual(counted(scheme, (0,), plan, (0,)), (1, scheme[1]))
            else:
                with self.assertRaises(TooMuch):
                    counted(scheme, (0,), plan, (0,))


if __name__ == "__main__":
    unittest.main()
