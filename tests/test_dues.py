"""Points 156 to 159: what the members of a circle are dealt."""

import random
import unittest
from fractions import Fraction

from lotshown.circles import is_course, spells
from lotshown.dues import accounts, exact_account, late
from lotshown.errors import NotThere
from tests.plaincircle import any_course, follow
from tests.test_dealt import NAMES

RULES = ("held", "now")
COURSE = [("join", "ann", 1), ("join", "bob", 1), ("buy", 10), ("join", "cid", 2), ("win", 0, 40)]


def told_late(rule, course, member, number):
    """Return the accounts of a newcomer by putting the entry in at each place."""
    rows = []
    for place in range(len(course) + 1):
        more = course[:place] + [("join", member, number)] + course[place:]
        rows.append(dict(accounts(rule, more))[member] if is_course(rule, more) else None)
    return rows


class Accounts(unittest.TestCase):
    def test_of_the_document(self):
        self.assertEqual(accounts("held", COURSE), [("ann", 15), ("bob", 15), ("cid", 0)])
        self.assertEqual(accounts("now", COURSE), [("ann", 5), ("bob", 5), ("cid", 20)])

    def test_nobody_and_nothing(self):
        for rule in RULES:
            self.assertEqual(accounts(rule, []), [])
            self.assertEqual(accounts(rule, [("join", "ann", 7)]), [("ann", 0)])
            self.assertEqual(accounts(rule, [("join", "ann", 7), ("leave", "ann")]), [("ann", 0)])
            self.assertEqual(accounts(rule, [("join", "bob", 7), ("give", "bob", "ann", 7)]), [("ann", 0), ("bob", 0)])
            self.assertEqual(accounts(rule, [("join", "ann", 7), ("buy", 5), ("leave", "ann")]), [("ann", -5)])

    def test_who_was_in_and_left(self):
        course = [("join", "ann", 1), ("join", "bob", 1), ("buy", 5), ("leave", "bob"), ("win", 0, 8), ("buy", 2), ("win", 1, 9)]
        self.assertEqual(accounts("held", course), [("ann", -3 + 4 - 2 + 9), ("bob", -2 + 4)])
        self.assertEqual(accounts("now", course), [("ann", -3 + 8 - 2 + 9), ("bob", -2)])
        # And who comes again begins a new spell.
        course = [("join", "ann", 1), ("join", "bob", 1), ("buy", 1), ("leave", "bob"), ("join", "bob", 1), ("buy", 1), ("buy", 1)]
        for rule in RULES:
            self.assertEqual(accounts(rule, course), [("ann", -2), ("bob", -1)])

    def test_purchases_and_wins_are_dealt_apart(self):
        course = [("join", "ann", 1), ("join", "bob", 1), ("buy", 1), ("win", 0, 1), ("win", 0, 1), ("buy", 1)]
        for rule in RULES:
            self.assertEqual(accounts(rule, course), [("ann", 0), ("bob", 0)])
        self.assertEqual(accounts("held", course[:4]), [("ann", 0), ("bob", 0)])
        self.assertEqual(accounts("held", course[:5]), [("ann", 0), ("bob", 1)])

    def test_wins_of_a_spell_go_on_behind_it(self):
        # By held, the wins of two purchases of one spell are dealt one behind the other, whenever they come.
        course = [("join", "ann", 1), ("join", "bob", 1), ("buy", 2), ("buy", 2), ("win", 1, 1), ("join", "cid", 1), ("win", 0, 1), ("win", 1, 1)]
        self.assertEqual(accounts("held", course), [("ann", 0), ("bob", -1), ("cid", 0)])
        self.assertEqual(accounts("now", course), [("ann", 0), ("bob", -1), ("cid", 0)])
        course = course + [("win", 0, 1)]
        self.assertEqual(accounts("held", course), [("ann", 0), ("bob", 0), ("cid", 0)])
        self.assertEqual(accounts("now", course), [("ann", 0), ("bob", -1), ("cid", 1)])

    def test_against_coin_by_coin(self):
        chance = random.Random(156)
        for turn in range(240):
            rule = RULES[turn % 2]
            course = any_course(chance, rule, 40)
            before = list(course)
            dealt, exact = follow(rule, course)
            self.assertEqual(accounts(rule, course), sorted(dealt.items()))
            for member in exact:
                self.assertEqual(exact_account(rule, course, member), (exact[member].numerator, exact[member].denominator))
            money = sum(entry[2] for entry in course if entry[0] == "win") - sum(entry[1] for entry in course if entry[0] == "buy")
            self.assertEqual(sum(dealt.values()), money)
            self.assertEqual(sum(exact.values(), Fraction(0)), money)
            # Less than one coin, of wins and of purchases, in each spell.
            for member in dealt:
                self.assertLess(abs(dealt[member] - exact[member]), 2 * len(spells(course)))
            self.assertEqual(course, before)

    def test_each_spell_is_near_the_exact_share(self):
        chance = random.Random(157)
        for _ in range(100):
            numbers = [chance.randint(1, 9) for _ in range(4)]
            course = [("join", name, number) for name, number in zip(("ann", "bob", "cid", "dan"), numbers)]
            course += [("buy", chance.randint(1, 30)) for _ in range(5)]
            for rule in RULES:
                for member, account in accounts(rule, course):
                    exact = Fraction(*exact_account(rule, course, member))
                    self.assertLess(abs(account - exact), 1)

    def test_great_money(self):
        course = [("join", name, 50) for name in NAMES[:40]] + [("buy", 10 ** 12)] * 100 + [("win", 7, 10 ** 12)] * 60
        for rule in RULES:
            self.assertEqual(accounts(rule, course), [(name, -10 ** 12) for name in NAMES[:40]])
            self.assertEqual(exact_account(rule, course, NAMES[0]), (-10 ** 12, 1))


class Exact(unittest.TestCase):
    def test_plain_cases(self):
        course = [("join", "ann", 1), ("join", "bob", 2), ("buy", 10), ("join", "cid", 4), ("win", 0, 5)]
        self.assertEqual(exact_account("held", course, "ann"), (-5, 3))
        self.assertEqual(exact_account("now", course, "ann"), (-55, 21))
        self.assertEqual(exact_account("held", course, "cid"), (0, 1))
        self.assertEqual(exact_account("now", course, "cid"), (20, 7))

    def test_who_was_never_in(self):
        for rule in RULES:
            for course in ([], COURSE):
                with self.assertRaises(NotThere):
                    exact_account(rule, course, "dan")
            self.assertEqual(exact_account(rule, [("join", "ann", 1), ("give", "ann", "dan", 1)], "dan"), (0, 1))


class Late(unittest.TestCase):
    def test_plain_cases(self):
        self.assertEqual(late("held", COURSE, "dan", 2), told_late("held", COURSE, "dan", 2))
        self.assertEqual(late("held", COURSE, "dan", 2), [15, 15, 15, 0, 0, 0])
        self.assertEqual(late("now", COURSE, "dan", 2), [8, 8, 8, 13, 13, 0])
        for rule in RULES:
            self.assertEqual(late(rule, [], "dan", 1000), [0])
            self.assertEqual(late(rule, [("join", "ann", 1), ("buy", 4)], "dan", 1), [-2, -2, 0])

    def test_against_putting_the_entry_in(self):
        chance = random.Random(158)
        for turn in range(150):
            rule = RULES[turn % 2]
            course = any_course(chance, rule, chance.randint(0, 30))
            number = chance.choice((1, 7, 1000))
            before = list(course)
            self.assertEqual(late(rule, course, "eve", number), told_late(rule, course, "eve", number))
            self.assertEqual(course, before)

    def test_where_the_entry_is_not_possible(self):
        # As long as others have 1999 parts, or are 40, nobody comes in; nor ahead of that.
        course = [("join", "ann", 5), ("buy", 9), ("join", "bob", 1000), ("join", "cid", 995), ("buy", 3), ("leave", "bob"), ("buy", 8)]
        for rule in RULES:
            self.assertEqual(late(rule, course, "dan", 1), [None] * 6 + [0, 0])
            self.assertEqual(late(rule, course, "dan", 1000), [None] * 6 + [-4, 0])
            self.assertEqual(late(rule, course, "dan", 1000), told_late(rule, course, "dan", 1000))
        many = [("join", name, 1) for name in NAMES[:40]] + [("buy", 41), ("leave", NAMES[3]), ("buy", 40)]
        for rule in RULES:
            self.assertEqual(late(rule, many, "zz", 1), told_late(rule, many, "zz", 1))
            self.assertEqual(late(rule, many, "zz", 1), [None] * 42 + [-1, 0])

    def test_two_hundred_entries(self):
        course = [("join", "ann", 1)] + [("buy", 1)] * 198
        for rule in RULES:
            rows = late(rule, course, "bob", 1)
            self.assertEqual(rows, [-99] * 2 + [-((199 - at) // 2) for at in range(2, 200)])
            self.assertEqual(rows[:3], [-99, -99, -98])
            # With one more there would be 201 entries.
            self.assertEqual(late(rule, course + [("buy", 1)], "bob", 1), [None] * 201)

    def test_many_spells_of_many_members(self):
        course = [("join", name, 40 + at % 3) for at, name in enumerate(NAMES[:39])]
        for at in range(80):
            course += [("give", NAMES[at % 39], NAMES[(at + 1) % 39], 1), ("buy", 10 ** 12 - at)]
        for rule in RULES:
            rows = late(rule, course, "zz", 7)
            for place in (0, 39, 40, 41, 120, 198, 199):
                more = course[:place] + [("join", "zz", 7)] + course[place:]
                self.assertEqual(rows[place], dict(accounts(rule, more))["zz"])

    def test_who_comes_late_gains_by_now_alone(self):
        chance = random.Random(159)
        gained = 0
        for _ in range(60):
            course = any_course(chance, "now", 20)
            last = max([at for at, entry in enumerate(course) if entry[0] == "buy"], default=-1)
            held, now = late("held", course, "eve", 5), late("now", course, "eve", 5)
            for place in range(last + 1, len(course) + 1):
                self.assertEqual(held[place], 0)
                self.assertGreaterEqual(now[place], 0)
                gained += now[place] > 0
            for place in range(len(course) + 1):
                more = course[:place] + [("join", "eve", 5)] + course[place:]
                fewer = [entry for at, entry in enumerate(more) if entry[0] != "win" or more.index(("join", "eve", 5)) < self.bought(more, entry[1])]
                if place == len(course):
                    self.assertEqual(held[place], 0)
                # By held, the wins of earlier purchases bring nothing to the newcomer.
                self.assertEqual(held[place], dict(accounts("held", self.renumbered(more, fewer)))["eve"])
        self.assertGreater(gained, 20)

    def bought(self, course, purchase):
        return [at for at, entry in enumerate(course) if entry[0] == "buy"][purchase]

    def renumbered(self, more, fewer):
        # No purchase was taken out, so that their numbers stay.
        self.assertEqual([entry for entry in more if entry[0] == "buy"], [entry for entry in fewer if entry[0] == "buy"])
        return fewer


if __name__ == "__main__":
    unittest.main()
