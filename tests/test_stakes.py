"""Point 95: what lying is worth, and the stake that leaves nothing of it."""

import random
import unittest
from fractions import Fraction
from itertools import product

from lotshown.errors import Refused, TooMuch
from lotshown.machines import honest_plan
from lotshown.schemes import machine_of
from lotshown.stakes import least_deterrent, lure
from lotshown.tails import is_fair_for
from lotshown.values import earned, worth
from tests.machinery import all_plans, pair, payoffs_of, plain_earned
from tests.plainly import all_coalitions


def schemes_of(size, order):
    n = len(order)
    return [("turns", size, order, ()), ("beacon", size, order, ()), ("again", size, order, (1, 0)),
            ("again", size, order, (2, 3))] + [("shares", size, order, (t,)) for t in range(1, n + 1)]


class Lures(unittest.TestCase):
    def test_fair_schemes_have_the_lure_0(self):
        chance = random.Random(121)
        lured = 0
        for size, order in ((2, (0, 1, 2)), (3, (1, 0)), (4, (0,))):
            for scheme, coalition in product(schemes_of(size, order), all_coalitions(len(order))):
                payoffs = payoffs_of(*[chance.randint(-10 ** 9, 10 ** 9) for _ in range(64)])
                amount = lure(scheme, coalition, payoffs)
                machine = machine_of(scheme, coalition)
                honest = earned(machine, honest_plan(machine), payoffs)
                self.assertEqual(honest, pair(Fraction(sum(payoffs[:size]), size)))
                self.assertEqual(amount, pair(Fraction(*worth(machine, payoffs)) - Fraction(*honest)))
                self.assertGreaterEqual(amount[0], 0)
                if is_fair_for(scheme, coalition):
                    self.assertEqual(amount, (0, 1))
                lured += amount[0] > 0
        self.assertGreater(lured, 20)

    def test_against_all_plans(self):
        for scheme, coalition in ((("turns", 2, (0, 1), ()), (1,)), (("turns", 2, (0, 1), ()), (0, 1)), (("shares", 2, (0, 1), (2,)), (1,)),
                                  (("again", 2, (0, 1), (1, 3)), (1,))):
            payoffs = payoffs_of(3, 20)
            machine = machine_of(scheme, coalition)
            best = max(plain_earned(machine, plan, payoffs) for plan in all_plans(machine))
            self.assertEqual(lure(scheme, coalition, payoffs), pair(best - Fraction(23, 2)))

    def test_by_hand(self):
        # Behind the sum 1 the last one withholds the value 1: half of the honest draws end with 0 for 20 less.
        self.assertEqual(lure(("turns", 2, (0, 1), ()), (1,), payoffs_of(0, 20)), (5, 1))
        self.assertEqual(lure(("turns", 2, (0, 1), ()), (0,), payoffs_of(0, 20)), (0, 1))
        self.assertEqual(lure(("again", 2, (0,), (1, 0)), (0,), payoffs_of(0, 20)), (5, 1))
        self.assertEqual(lure(("again", 2, (0,), (1, 4)), (0,), payoffs_of(0, 20)), (3, 1))
        self.assertEqual(lure(("again", 2, (0,), (1, 10)), (0,), payoffs_of(0, 20)), (0, 1))

    def test_too_much(self):
        everybody = (0, 1, 2, 3, 4, 5)
        with self.assertRaises(TooMuch):
            lure(("turns", 12, everybody, ()), everybody, payoffs_of(1))
        with self.assertRaises(TooMuch):
            least_deterrent(("again", 12, everybody, (1, 0)), everybody, payoffs_of(1))


class Deterrents(unittest.TestCase):
    def with_stake(self, scheme, stake):
        return scheme[:3] + ((scheme[3][0], stake),)

    def test_just_no_lure(self):
        chance = random.Random(122)
        found = []
        for size, order, r in ((2, (0, 1), 1), (3, (1, 0), 2), (2, (2, 0, 1), 1), (5, (0,), 3), (4, (0, 1), 1)):
            for coalition in all_coalitions(len(order)):
                for most in (3, 100, 10 ** 5):
                    payoffs = payoffs_of(*[chance.randint(-most, most) for _ in range(64)])
                    scheme = ("again", size, order, (r, chance.randint(0, 10 ** 6)))
                    stake = least_deterrent(scheme, coalition, payoffs)
                    self.assertIs(type(stake), int)
                    self.assertEqual(lure(self.with_stake(scheme, stake), coalition, payoffs), (0, 1))
                    if stake > 0:
                        self.assertGreater(lure(self.with_stake(scheme, stake - 1), coalition, payoffs)[0], 0)
                    if is_fair_for(scheme, coalition):
                        self.assertEqual(stake, 0)
                    found.append(stake)
        self.assertGreater(len([stake for stake in found if stake > 0]), 20)
        self.assertIn(0, found)

    def test_by_hand(self):
        # Whoever draws 0 alone can withhold, and is paid 10 on the average in the next draw.
        self.assertEqual(least_deterrent(("again", 2, (0,), (1, 0)), (0,), payoffs_of(0, 20)), 10)
        self.assertEqual(least_deterrent(("again", 2, (0,), (1, 0)), (0,), payoffs_of(0, 21)), 11)
        self.assertEqual(least_deterrent(("again", 2, (0,), (1, 0)), (0,), payoffs_of(7, 7)), 0)
        # Whoever withholds 1 in both draws earns 10 + (20 - 3/2 * stake) / 2 instead of 10.
        self.assertEqual(least_deterrent(("again", 2, (0,), (1, 0)), (0,), payoffs_of(20, 0)), 14)

    def test_stakes_of_any_size(self):
        great = 10 ** 9
        self.assertEqual(least_deterrent(("again", 2, (0,), (1, 0)), (0,), payoffs_of(great, -great)), 1333333334)

    def test_other_ways(self):
        for scheme in (("turns", 2, (0, 1), ()), ("beacon", 2, (0, 1), ()), ("shares", 2, (0, 1), (1,))):
            with self.assertRaises(Refused):
                least_deterrent(scheme, (1,), payoffs_of(1))


if __name__ == "__main__":
    unittest.main()
