"""Points 88 to 92: what a coalition can do by a scheme."""

import unittest
from fractions import Fraction
from itertools import combinations, permutations, product

from lotshown.errors import TooMuch
from lotshown.fair import is_fair, payoffs_of
from lotshown.schemes import even_chances, machine_of
from lotshown.tails import effective_tail, greatest_chance, is_fair_for, needed_honest, tail
from lotshown.values import worth
from tests.machinery import pair
from tests.plainly import all_coalitions

EVERYBODY = (0, 1, 2, 3, 4, 5)


def schemes_of(size, order, stake=0):
    n = len(order)
    return [("turns", size, order, ()), ("beacon", size, order, ()), ("again", size, order, (1, stake)),
            ("again", size, order, (2, stake))] + [("shares", size, order, (t,)) for t in range(1, n + 1)]


def plain_chance(size, members, wanted, somebody_honest):
    """Return what point 89 tells, value by value and choice by choice."""
    met = 0
    starts = range(size) if somebody_honest else (0,)
    for values in product(range(size), repeat=members):
        choices = [sum(value for value, shown in zip(values, row) if shown) for row in product((0, 1), repeat=members)]
        met += sum(any((start + choice) % size in wanted for choice in choices) for start in starts)
    return Fraction(met, size ** members * len(starts))


class Tails(unittest.TestCase):
    def test_tails(self):
        turns = ("turns", 2, (3, 1, 0, 2), ())
        for coalition, right in (((), ()), ((2,), (2,)), ((0,), ()), ((0, 2), (0, 2)), ((1, 2), (2,)), ((0, 1, 2), (1, 0, 2)),
                                 ((0, 1, 3), ()), ((0, 1, 2, 3), (3, 1, 0, 2)), ((2, 3), (2,)), ((0, 3), ())):
            self.assertEqual(tail(turns, coalition), right)
            self.assertEqual(effective_tail(turns, coalition), right)
            self.assertEqual(effective_tail(("again", 2, (3, 1, 0, 2), (1, 5)), coalition), right)
            self.assertEqual(effective_tail(("beacon", 2, (3, 1, 0, 2), ()), coalition), ())
        self.assertEqual(tail(("turns", 2, (0,), ()), (0,)), (0,))
        self.assertEqual(tail(("turns", 2, (0,), ()), ()), ())

    def test_by_shares(self):
        order = (3, 1, 0, 2)
        for coalition in all_coalitions(4):
            honest = 4 - len(coalition)
            members = tuple(party for party in order if party in coalition)
            for t in range(1, 5):
                scheme = ("shares", 2, order, (t,))
                self.assertEqual(effective_tail(scheme, coalition), () if honest >= t else members)
                self.assertEqual(tail(scheme, coalition), tail(("turns", 2, order, ()), coalition))


class Chances(unittest.TestCase):
    def test_the_example(self):
        scheme = ("turns", 2, (0, 1, 2), ())
        self.assertEqual(greatest_chance(scheme, (2,), (1,)), (3, 4))

    def test_against_machines(self):
        for size, n in ((2, 1), (3, 1), (2, 2), (3, 2), (4, 2), (2, 3)):
            wanted_sets = [some for many in range(size + 1) for some in combinations(range(size), many)]
            for order in permutations(range(n)):
                for scheme, coalition in product(schemes_of(size, order), all_coalitions(n)):
                    machine = machine_of(scheme, coalition)
                    for wanted in wanted_sets:
                        self.assertEqual(greatest_chance(scheme, coalition, wanted), worth(machine, payoffs_of(wanted)))
                    self.assertIs(is_fair_for(scheme, coalition), is_fair(machine, even_chances(scheme)))

    def test_against_machines_of_more_parties(self):
        for scheme, coalition, wanted in ((("turns", 5, (0, 1, 2, 3), ()), (1, 2, 3), (0, 2)), (("shares", 3, (2, 0, 1), (2,)), (0, 1), (1,)),
                                          (("again", 3, (2, 0, 1), (3, 0)), (0, 1, 2), (2,)), (("shares", 3, (2, 0, 1), (3,)), (2,), (0, 1)),
                                          (("again", 6, (2, 0, 1), (3, 0)), (1,), (0, 5)), (("beacon", 4, (0, 1, 2), ()), (0, 2), (1, 2, 3))):
            self.assertEqual(greatest_chance(scheme, coalition, wanted), worth(machine_of(scheme, coalition), payoffs_of(wanted)))

    def test_against_all_values_and_choices(self):
        for size, n, tails in ((2, 6, 6), (3, 6, 5), (5, 4, 4), (12, 3, 3), (7, 3, 2), (11, 2, 1)):
            order = tuple(range(n))
            members = tuple(range(n - tails, n))
            for wanted in ((0,), (size - 1,), (0, 1), tuple(range(1, size)), (), order[:size]):
                wanted = tuple(sorted(set(number for number in wanted if number < size)))
                right = plain_chance(size, tails, wanted, tails < n)
                self.assertEqual(greatest_chance(("turns", size, order, ()), members, wanted), pair(right))
                self.assertEqual(greatest_chance(("shares", size, order, (n,)), members, wanted), pair(right))
                for r in (1, 3):
                    again = 1 - (1 - Fraction(len(wanted), size)) ** r * (1 - right)
                    self.assertEqual(greatest_chance(("again", size, order, (r, 9)), members, wanted), pair(again))

    def test_shares_around_the_threshold(self):
        for t in range(1, 5):
            scheme = ("shares", 6, (0, 1, 2, 3), (t,))
            for honest in range(5):
                # The members are the first ones, so that by turns they could do nothing as long as somebody is honest.
                coalition = tuple(range(4 - honest))
                right = Fraction(1, 6) if honest >= t else plain_chance(6, 4 - honest, (2,), honest > 0)
                self.assertEqual(greatest_chance(scheme, coalition, (2,)), pair(right))
                self.assertIs(is_fair_for(scheme, coalition), honest >= t)

    def test_none_and_all_results(self):
        for scheme, coalition in product(schemes_of(4, (1, 2, 0), 7), all_coalitions(3)):
            self.assertEqual(greatest_chance(scheme, coalition, ()), (0, 1))
            self.assertEqual(greatest_chance(scheme, coalition, (0, 1, 2, 3)), (1, 1))

    def test_again_without_a_tail(self):
        scheme = ("again", 5, (0, 1, 2), (3, 0))
        for coalition, right in (((), (2, 5)), ((0,), (2, 5)), ((0, 1), (2, 5)), ((1,), (2, 5))):
            self.assertEqual(greatest_chance(scheme, coalition, (1, 4)), right)
            self.assertIs(is_fair_for(scheme, coalition), True)
        late = 1 - Fraction(3, 5) ** 3 * (1 - plain_chance(5, 1, (1, 4), True))
        self.assertEqual(greatest_chance(scheme, (2,), (1, 4)), pair(late))
        self.assertIs(is_fair_for(scheme, (2,)), False)

    def test_too_much(self):
        for size, members, right in ((12, 4, False), (12, 3, True), (11, 4, True), (7, 5, True), (8, 5, False), (5, 6, True),
                                     (6, 6, False), (2, 6, True)):
            coalition = EVERYBODY[6 - members:]
            beside = EVERYBODY[:members]
            for scheme, some in ((("turns", size, EVERYBODY, ()), coalition), (("again", size, EVERYBODY, (3, 0)), coalition),
                                 (("shares", size, EVERYBODY, (6,)), beside), (("shares", size, EVERYBODY, (7 - members,)), coalition)):
                if right:
                    self.assertEqual(greatest_chance(scheme, some, tuple(range(size))), (1, 1))
                else:
                    with self.assertRaises(TooMuch):
                        greatest_chance(scheme, some, (0,))
            # Where the tail does not count, or is empty, nothing is too much.
            self.assertEqual(greatest_chance(("beacon", size, EVERYBODY, ()), coalition, (0,)), (1, size))
            if members < 6:
                self.assertEqual(greatest_chance(("shares", size, EVERYBODY, (1,)), coalition, (0,)), (1, size))
                self.assertEqual(greatest_chance(("turns", size, EVERYBODY, ()), beside, (0,)), (1, size))


class Fairness(unittest.TestCase):
    def test_needed_honest_parties(self):
        self.assertEqual(needed_honest(("turns", 2, (0, 1, 2), ())), 3)
        self.assertEqual(needed_honest(("shares", 2, (0, 1, 2), (2,))), 2)
        for n in range(1, 5):
            for order in (tuple(range(n)), tuple(range(n))[::-1]):
                for scheme in schemes_of(3, order):
                    fair = [all(is_fair_for(scheme, some) for some in all_coalitions(n) if len(some) <= n - h) for h in range(n + 1)]
                    self.assertEqual(needed_honest(scheme), fair.index(True))

    def test_fairness_by_the_words(self):
        self.assertIs(is_fair_for(("turns", 2, (0, 1, 2), ()), (0, 1)), True)
        self.assertIs(is_fair_for(("turns", 2, (0, 1, 2), ()), (2,)), False)
        self.assertIs(is_fair_for(("turns", 2, (0, 1, 2), ()), (0, 1, 2)), False)
        self.assertIs(is_fair_for(("turns", 2, (0,), ()), ()), True)
        self.assertIs(is_fair_for(("shares", 2, (0, 1, 2), (2,)), (2,)), True)
        self.assertIs(is_fair_for(("shares", 2, (0, 1, 2), (2,)), (1, 2)), False)
        self.assertIs(is_fair_for(("beacon", 2, (0, 1, 2), ()), (0, 1, 2)), True)
        for scheme in schemes_of(2, (0, 1)):
            self.assertIs(is_fair_for(scheme, ()), True)


if __name__ == "__main__":
    unittest.main()
