"""Point 172: what is paid, lapsed and pending of several tickets."""

import random
import unittest

from lotshown.claims import is_claims, state
from lotshown.payouts import paid_of, paid_to
from tests.tickets import SLIP_SALT, STUB_SALT, any_events, bearer

TERMS = (2, 100, 200, 30)
LOST = (120, "lost", "bob", STUB_SALT)
SHOW = (130, "show", "cid", SLIP_SALT)
CLAIM = (150, "claim", "ann", None)


def named(number, holder="ann"):
    return (number, "named", holder)


class Payouts(unittest.TestCase):
    def test_no_tickets(self):
        self.assertEqual(paid_of(TERMS, [], [], [], 0), ([], 0, 0))
        self.assertEqual(paid_to(TERMS, [], [], [], 0), [])

    def test_paid_lapsed_and_pending(self):
        tickets = [named(7), bearer(2, 3), bearer(2, 5), named(1, "bob"), bearer(2, 9), named(4)]
        prizes = [50, 51, 7, 30, 11, 0]
        courses = [[CLAIM], [LOST, SHOW], [SHOW], [], [LOST], []]
        for now, told in (
            (150, ([("ann", 7, 50), ("cid", 5, 7)], 0, 51 + 30 + 11)),
            (199, ([("ann", 7, 50), ("cid", 5, 7)], 0, 51 + 30 + 11)),
            (200, ([("ann", 7, 50), ("cid", 5, 7)], 30, 51 + 11)),
            (229, ([("ann", 7, 50), ("cid", 5, 7)], 30, 51 + 11)),
            (230, ([("ann", 7, 50), ("bob", 3, 25), ("cid", 3, 26), ("cid", 5, 7)], 41, 0)),
            (10 ** 9, ([("ann", 7, 50), ("bob", 3, 25), ("cid", 3, 26), ("cid", 5, 7)], 41, 0)),
        ):
            self.assertEqual(paid_of(TERMS, tickets, prizes, courses, now), told)
            self.assertEqual(sum(row[2] for row in told[0]) + told[1] + told[2], sum(prizes))
        self.assertEqual(paid_to(TERMS, tickets, prizes, courses, 150), [("ann", 50), ("cid", 7)])
        self.assertEqual(paid_to(TERMS, tickets, prizes, courses, 230), [("ann", 50), ("bob", 25), ("cid", 33)])

    def test_halves_of_one_coin(self):
        self.assertEqual(paid_of(TERMS, [bearer(2, 3)], [1], [[LOST, SHOW]], 230), ([("bob", 3, 0), ("cid", 3, 1)], 0, 0))
        self.assertEqual(paid_to(TERMS, [bearer(2, 3)], [1], [[LOST, SHOW]], 230), [("bob", 0), ("cid", 1)])
        self.assertEqual(paid_of(TERMS, [bearer(2, 3)], [2], [[LOST, SHOW]], 230), ([("bob", 3, 1), ("cid", 3, 1)], 0, 0))

    def test_the_order_of_the_tickets(self):
        tickets, prizes = [named(7), named(3), named(5, "abe")], [10, 20, 30]
        courses = [[CLAIM], [CLAIM], [(160, "claim", "abe", None)]]
        rows = [("abe", 5, 30), ("ann", 3, 20), ("ann", 7, 10)]
        for order in ((0, 1, 2), (2, 1, 0), (1, 0, 2), (2, 0, 1)):
            chosen = [[row[at] for at in order] for row in (tickets, prizes, courses)]
            self.assertEqual(paid_of(TERMS, *chosen, 170), (rows, 0, 0))
            self.assertEqual(paid_to(TERMS, *chosen, 170), [("abe", 30), ("ann", 30)])

    def test_the_three_come_to_all_prizes(self):
        chance = random.Random(172)
        for _ in range(60):
            many = chance.randint(1, 6)
            tickets, prizes, courses = [], [], []
            for number in chance.sample(range(50), many):
                tickets.append(bearer(2, number) if chance.random() < 0.7 else named(number))
                prizes.append(chance.choice((0, 1, 7, 50, 10 ** 20)))
                courses.append(any_events(chance, tickets[-1][1], chance.randint(0, 8), 260))
            before = [list(events) for events in courses]
            last = max([events[-1][0] for events in courses if events], default=0)
            for now in sorted({last, last + 7, 199, 200, 229, 230, 300}):
                if now >= last:
                    paid, lapsed, pending = paid_of(TERMS, tickets, prizes, courses, now)
                    self.assertEqual(sum(row[2] for row in paid) + lapsed + pending, sum(prizes))
                    self.assertEqual(paid, sorted(paid))
                    sums = {}
                    for name, number, money in paid:
                        sums[name] = sums.get(name, 0) + money
                    self.assertEqual(paid_to(TERMS, tickets, prizes, courses, now), sorted(sums.items()))
                    if now >= 230:
                        self.assertEqual(pending, 0)
            self.assertEqual(courses, before)

    def test_a_paid_or_lapsed_ticket_stays_so(self):
        chance = random.Random(173)
        ended = 0
        for _ in range(150):
            ticket = bearer(2, 7) if chance.random() < 0.7 else named(7)
            events = any_events(chance, ticket[1], 10, 260)
            for many in range(len(events) + 1):
                now = events[many - 1][0] if many else 0
                one = state(TERMS, ticket, 50, events[:many], now)
                if one[0] in ("paid", "lapsed"):
                    ended += 1
                    for later in range(many, len(events) + 1):
                        self.assertEqual(state(TERMS, ticket, 50, events[:later], 270), one)
        self.assertGreater(ended, 200)

    def test_other_tickets_do_not_matter(self):
        chance = random.Random(174)
        for _ in range(30):
            tickets = [bearer(2, 1), named(2), bearer(2, 3)]
            courses = [any_events(chance, ticket[1], 6, 240) for ticket in tickets]
            self.assertTrue(all(is_claims(events) for events in courses))
            prizes = [7, 8, 9]
            rows, lapsed, pending = [], 0, 0
            for at in range(3):
                found = paid_of(TERMS, tickets[at:at + 1], prizes[at:at + 1], courses[at:at + 1], 245)
                rows, lapsed, pending = rows + found[0], lapsed + found[1], pending + found[2]
            self.assertEqual(paid_of(TERMS, tickets, prizes, courses, 245), (sorted(rows), lapsed, pending))

    def test_nothing_is_shared(self):
        tickets, prizes, courses = [named(7)], [50], [[CLAIM]]
        found = paid_of(TERMS, tickets, prizes, courses, 150)
        found[0].clear()
        paid_to(TERMS, tickets, prizes, courses, 150).clear()
        self.assertEqual(paid_of(TERMS, tickets, prizes, courses, 150), ([("ann", 7, 50)], 0, 0))
        self.assertEqual((tickets, prizes, courses), ([named(7)], [50], [[CLAIM]]))


if __name__ == "__main__":
    unittest.main()
