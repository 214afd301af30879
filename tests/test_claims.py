"""Points 165 to 171: tickets, terms, events, and what comes of them."""

import random
import unittest

from lotshown.claims import is_claims, is_terms, is_ticket, slip_value, state, stub_value, words
from lotshown.errors import OutOfRange
from lotshown.promises import promise
from tests.kinds import ODD_VALUES
from tests.tickets import SLIP_SALT, STUB_SALT, WRONG_SALT, any_events, bearer, plain_told

TERMS = (2, 100, 200, 30)
NAMED = (7, "named", "ann")
BEARER = bearer(2, 7)
LOST = (120, "lost", "bob", STUB_SALT)
SHOW = (130, "show", "cid", SLIP_SALT)
WORDS = ("claim", "pass", "show", "lost", "take", "yield", "rule")


def changed(row, at, value):
    return row[:at] + (value,) + row[at + 1:]


class Tickets(unittest.TestCase):
    def test_tickets(self):
        for value in (NAMED, changed(NAMED, 0, 0), changed(NAMED, 0, 999999), changed(NAMED, 2, "a" * 16), BEARER,
                      (7, "bearer", ("00ff", "00ff"))):
            self.assertIs(is_ticket(2, value), True)
        for width in (1, 32):
            self.assertIs(is_ticket(width, bearer(width, 7)), True)
            self.assertIs(is_ticket(width, NAMED), True)
            self.assertIs(is_ticket(width, BEARER), False)

    def test_one_condition_broken(self):
        slip, stub = BEARER[2]
        for value in (
            changed(NAMED, 0, -1), changed(NAMED, 0, 1000000), changed(NAMED, 0, True), changed(NAMED, 0, None), changed(NAMED, 0, "7"),
            changed(NAMED, 1, "Named"), changed(NAMED, 1, None), changed(NAMED, 1, "bearer"), changed(NAMED, 2, "Ann"), changed(NAMED, 2, ""),
            changed(NAMED, 2, "a" * 17), changed(NAMED, 2, None), changed(NAMED, 2, (slip, stub)), NAMED[:2], NAMED + (1,), list(NAMED),
            changed(BEARER, 1, "named"), changed(BEARER, 2, [slip, stub]), changed(BEARER, 2, (slip,)), changed(BEARER, 2, (slip, stub, slip)),
            changed(BEARER, 2, (slip, None)), changed(BEARER, 2, (None, stub)), changed(BEARER, 2, (slip + "0", stub)), changed(BEARER, 2, (slip, stub[1:])),
            changed(BEARER, 2, ("00FF", stub)), changed(BEARER, 2, (slip, "00fg")), changed(BEARER, 2, slip), changed(BEARER, 2, (1, 2)),
            changed(BEARER, 0, -1), changed(BEARER, 0, 1000000), changed(BEARER, 1, "other"), changed(BEARER, 1, None), changed(BEARER, 1, ""),
        ):
            self.assertIs(is_ticket(2, value), False, value)
        for value in ODD_VALUES:
            self.assertIs(is_ticket(2, value), False)
            self.assertIs(is_ticket(2, changed(BEARER, 2, value)), False)
            self.assertIs(is_ticket(2, changed(NAMED, 1, value)), False)

    def test_widths(self):
        for width in (0, 33, -1, True, None, "2"):
            for value in (NAMED, None, BEARER):
                with self.assertRaises(OutOfRange):
                    is_ticket(width, value)

    def test_slips_and_stubs(self):
        self.assertEqual(slip_value(7), tuple(b"slip 7"))
        self.assertEqual(stub_value(999999), tuple(b"stub 999999"))
        self.assertEqual(slip_value(0), tuple(b"slip 0"))
        self.assertEqual(stub_value(10), tuple(b"stub 10"))


class Terms(unittest.TestCase):
    def test_terms(self):
        for value in (TERMS, (1, 0, 1, 1), (32, 100, 200, 10 ** 6), (2, 0, 10 ** 9 - 1, 1), (2, 10 ** 9 - 2, 10 ** 9 - 1, 1),
                      (2, 0, 10 ** 9 - 10 ** 6, 10 ** 6)):
            self.assertIs(is_terms(value), True)

    def test_one_condition_broken(self):
        for value in (
            changed(TERMS, 0, 0), changed(TERMS, 0, 33), changed(TERMS, 0, True), changed(TERMS, 0, None), changed(TERMS, 1, 200), changed(TERMS, 1, 201),
            changed(TERMS, 1, -1), changed(TERMS, 1, True), changed(TERMS, 1, "0"), changed(TERMS, 2, 100), changed(TERMS, 2, 10 ** 9), changed(TERMS, 2, None),
            changed(TERMS, 2, 10 ** 9 - 29), changed(TERMS, 3, 0), changed(TERMS, 3, 10 ** 6 + 1), changed(TERMS, 3, True), changed(TERMS, 3, None),
            changed(TERMS, 3, -1), (2, 0, 10 ** 9 - 10 ** 6 + 1, 10 ** 6), list(TERMS), TERMS[:3], TERMS + (1,), (2, 0, True, 1), (2, False, 1, 1),
        ):
            self.assertIs(is_terms(value), False, value)
        self.assertIs(is_terms(changed(TERMS, 2, 10 ** 9 - 30)), True)
        for value in ODD_VALUES:
            self.assertIs(is_terms(value), False)
            self.assertIs(is_terms(changed(TERMS, 2, value)), False)


class Events(unittest.TestCase):
    def test_events(self):
        for events in (
            [], [(0, "claim", "ann", None)], [(10 ** 9, "pass", "ann", "bob")], [LOST, SHOW], [SHOW, changed(SHOW, 0, 130)], [(5, "pass", "ann", "ann")],
            [(5, "take", "ann", None), (5, "yield", "ann", None), (5, "rule", "a" * 16, None)], [LOST] * 60, [changed(SHOW, 3, (0,) * 16), changed(SHOW, 3, (255,) * 64)],
        ):
            self.assertIs(is_claims(events), True)

    def test_one_condition_broken(self):
        claim, hand = (5, "claim", "ann", None), (5, "pass", "ann", "bob")
        for events in (
            [LOST] * 61, [SHOW, LOST], (LOST, SHOW), LOST, [list(LOST)], [LOST[:3]], [LOST + (1,)],
            [changed(claim, 0, -1)], [changed(claim, 0, 10 ** 9 + 1)], [changed(claim, 0, True)], [changed(claim, 0, None)], [changed(claim, 1, "Claim")],
            [changed(claim, 1, "win")], [changed(claim, 1, None)], [changed(claim, 2, "Ann")], [changed(claim, 2, None)], [changed(claim, 2, "")],
            [changed(claim, 3, "bob")], [changed(claim, 3, 0)], [changed(claim, 3, ())], [changed(claim, 3, False)],
            [changed(hand, 3, None)], [changed(hand, 3, "Bob")], [changed(hand, 3, SLIP_SALT)], [changed(hand, 3, "")],
            [changed(SHOW, 3, None)], [changed(SHOW, 3, (1,) * 15)], [changed(SHOW, 3, (1,) * 65)], [changed(SHOW, 3, [1] * 16)], [changed(SHOW, 3, "cid")],
            [changed(SHOW, 3, (256,) * 16)], [changed(SHOW, 3, (True,) * 16)], [changed(LOST, 3, None)], [changed(LOST, 3, (1,) * 15)],
            [changed(claim, 1, "show")], [changed(claim, 1, "lost")], [changed(claim, 1, "pass")], [changed(SHOW, 1, "take")], [changed(SHOW, 1, "claim")],
            [changed(SHOW, 1, "yield")], [changed(SHOW, 1, "rule")], [changed(SHOW, 1, "pass")],
        ):
            self.assertIs(is_claims(events), False, events)
        for value in ODD_VALUES:
            self.assertIs(is_claims(value), isinstance(value, list) and value == [])
            self.assertIs(is_claims([LOST, value]), False)
            self.assertIs(is_claims([changed(claim, 1, value)]), False)
            self.assertIs(is_claims([changed(SHOW, 3, value)]), False)


class Case(unittest.TestCase):
    def told(self, ticket, events, now=None, prize=50, terms=TERMS):
        """Return the words and the state, and check both against the plain way."""
        now = events[-1][0] if now is None else now
        before = list(events)
        found = (words(terms, ticket, prize, events, now), state(terms, ticket, prize, events, now))
        self.assertEqual(found, plain_told(terms, ticket, prize, events, now))
        self.assertEqual(events, before)
        return found


class Named(Case):
    def test_of_the_document(self):
        events = [(90, "claim", "ann", None), (120, "pass", "ann", "bob"), (130, "claim", "ann", None)]
        self.assertEqual(self.told((7, "named", "ann"), events), (["early", "stands", "name"], ("open", "bob")))

    def test_times(self):
        for time, word, behind in ((99, "early", ("open", "ann")), (100, "stands", ("paid", (("ann", 50),))), (199, "stands", ("paid", (("ann", 50),))),
                                   (200, "over", ("lapsed",))):
            self.assertEqual(self.told(NAMED, [(time, "claim", "ann", None)]), ([word], behind))
        for time, word, behind in ((99, "early", ("open", "ann")), (100, "stands", ("open", "bob")), (199, "stands", ("open", "bob")), (200, "over", ("lapsed",))):
            self.assertEqual(self.told(NAMED, [(time, "pass", "ann", "bob")]), ([word], behind))
        self.assertEqual(self.told(NAMED, [], 0)[1], ("open", "ann"))
        self.assertEqual(self.told(NAMED, [], 199)[1], ("open", "ann"))
        self.assertEqual(self.told(NAMED, [], 200)[1], ("lapsed",))
        self.assertEqual(self.told(NAMED, [(150, "pass", "ann", "bob")], 200)[1], ("lapsed",))
        self.assertEqual(self.told(NAMED, [(150, "claim", "ann", None)], 10 ** 9)[1], ("paid", (("ann", 50),)))

    def test_passes(self):
        events = [(120, "pass", "ann", "ann"), (120, "pass", "ann", "bob"), (120, "pass", "ann", "cid"), (121, "pass", "bob", "ann"), (121, "claim", "bob", None),
                  (121, "claim", "ann", None), (121, "pass", "ann", "bob"), (130, "claim", "ann", None)]
        self.assertEqual(self.told(NAMED, events),
                         (["stands", "stands", "name", "stands", "name", "stands", "over", "over"], ("paid", (("ann", 50),))))

    def test_the_first_reason(self):
        # A named ticket knows only claim and pass, ahead of all but over.
        for word in WORDS[2:]:
            more = SLIP_SALT if word in ("show", "lost") else None
            for time in (0, 150):
                self.assertEqual(self.told(NAMED, [(time, word, "bob", more)])[0], ["kind"])
            self.assertEqual(self.told(NAMED, [(200, word, "bob", more)])[0], ["over"])
        self.assertEqual(self.told(NAMED, [(99, "claim", "bob", None)])[0], ["early"])
        self.assertEqual(self.told(NAMED, [(150, "claim", "bob", None)])[0], ["name"])
        self.assertEqual(self.told(NAMED, [(150, "pass", "bob", "ann")])[0], ["name"])

    def test_a_prize_of_0(self):
        for ticket in (NAMED, BEARER):
            self.assertEqual(self.told(ticket, [], 0, 0)[1], ("lapsed",))
            for word in WORDS:
                more = {"pass": "bob", "show": SLIP_SALT, "lost": STUB_SALT}.get(word)
                self.assertEqual(self.told(ticket, [(50, word, "ann", more)], 60, 0), (["over"], ("lapsed",)))


class Bearers(Case):
    def test_show(self):
        for time, word, behind in ((99, "early", ("open", None)), (100, "stands", ("paid", (("cid", 50),))), (199, "stands", ("paid", (("cid", 50),))),
                                   (200, "over", ("lapsed",))):
            self.assertEqual(self.told(BEARER, [changed(SHOW, 0, time)]), ([word], behind))

    def test_a_salt_that_opens_nothing(self):
        for salt in (WRONG_SALT, STUB_SALT):
            self.assertEqual(self.told(BEARER, [changed(SHOW, 3, salt)]), (["paper"], ("open", None)))
        for salt in (WRONG_SALT, SLIP_SALT):
            self.assertEqual(self.told(BEARER, [changed(LOST, 3, salt)]), (["paper"], ("open", None)))
        # A slip of another number, or of another width, opens nothing.
        other = bearer(2, 8)
        self.assertEqual(words(TERMS, (7, "bearer", other[2]), 50, [SHOW], 150), ["paper"])
        self.assertEqual(words(TERMS, other, 50, [SHOW, LOST], 150), ["stands", "over"])
        self.assertEqual(words((3, 100, 200, 30), (7, "bearer", BEARER[2]), 50, [SHOW], 150), ["paper"])
        # A stub is not a slip.
        turned = (7, "bearer", (BEARER[2][1], BEARER[2][0]))
        self.assertEqual(words(TERMS, turned, 50, [LOST, SHOW], 150), ["paper", "paper"])
        self.assertEqual(words(TERMS, (7, "bearer", (promise(2, STUB_SALT, slip_value(7)), "0000")), 50, [changed(SHOW, 3, STUB_SALT)], 150), ["stands"])

    def test_reported(self):
        for time, word in ((99, "early"), (100, "stands"), (199, "stands"), (200, "over")):
            found = self.told(BEARER, [changed(LOST, 0, time)])
            self.assertEqual(found[0], [word])
            if word == "stands":
                self.assertEqual(found[1], ("reported", "bob", time))
        for now, behind in ((120, ("reported", "bob", 120)), (200, ("reported", "bob", 120)), (229, ("reported", "bob", 120)), (230, ("lapsed",))):
            self.assertEqual(self.told(BEARER, [LOST], now)[1], behind)

    def test_takes(self):
        for time, word in ((149, "early"), (150, "stands"), (199, "stands"), (200, "stands"), (229, "stands"), (230, "over")):
            self.assertEqual(self.told(BEARER, [LOST, (time, "take", "bob", None)])[0], ["stands", word])
            if word == "stands":
                self.assertEqual(self.told(BEARER, [LOST, (time, "take", "bob", None)])[1], ("paid", (("bob", 50),)))
        # Since the last time there is, only one time is left.
        late = changed(LOST, 0, 199)
        for time, word in ((228, "early"), (229, "stands"), (230, "over")):
            self.assertEqual(self.told(BEARER, [late, (time, "take", "bob", None)])[0], ["stands", word])
        self.assertEqual(self.told(BEARER, [LOST, (150, "take", "ann", None)])[0], ["stands", "name"])
        self.assertEqual(self.told(BEARER, [LOST, (149, "take", "ann", None)])[0], ["stands", "early"])
        self.assertEqual(self.told(BEARER, [(150, "take", "bob", None)])[0], ["state"])
        self.assertEqual(self.told(BEARER, [(99, "take", "bob", None)])[0], ["early"])

    def test_contests(self):
        for time, word in ((120, "stands"), (149, "stands"), (150, "late"), (199, "late")):
            self.assertEqual(self.told(BEARER, [LOST, changed(SHOW, 0, time)])[0], ["stands", word])
        self.assertEqual(self.told(BEARER, [LOST, SHOW])[1], ("contested", "bob", "cid"))
        # From closes on it is late, even ahead of since + wait.
        late = changed(LOST, 0, 190)
        for time, word in ((199, "stands"), (200, "late"), (219, "late"), (220, "late")):
            self.assertEqual(self.told(BEARER, [late, changed(SHOW, 0, time)])[0], ["stands", word])
        self.assertEqual(self.told(BEARER, [LOST, changed(SHOW, 2, "bob")])[0], ["stands", "name"])
        self.assertEqual(self.told(BEARER, [LOST, changed(SHOW, 3, WRONG_SALT)])[0], ["stands", "paper"])
        self.assertEqual(self.told(BEARER, [LOST, changed(changed(SHOW, 2, "bob"), 3, WRONG_SALT)])[0], ["stands", "name"])

    def test_yield_and_rule(self):
        start = [LOST, SHOW]
        for word, name, paid in (("yield", "bob", "cid"), ("yield", "cid", "bob"), ("rule", "bob", "bob"), ("rule", "cid", "cid")):
            for time in (130, 150, 200, 229):
                self.assertEqual(self.told(BEARER, start + [(time, word, name, None)])[1], ("paid", ((paid, 50),)))
            self.assertEqual(self.told(BEARER, start + [(230, word, name, None)]), (["stands", "stands", "over"], ("paid", (("bob", 25), ("cid", 25)))))
        for word in ("yield", "rule"):
            self.assertEqual(self.told(BEARER, start + [(150, word, "ann", None)])[0][2], "name")
            self.assertEqual(self.told(BEARER, start + [(150, word, "contested", None)])[0][2], "name")
            self.assertEqual(self.told(BEARER, [LOST, (130, word, "bob", None)])[0][1], "state")
            self.assertEqual(self.told(BEARER, [(130, word, "bob", None)])[0], ["state"])
            self.assertEqual(self.told(BEARER, [(99, word, "bob", None)])[0], ["early"])

    def test_what_cannot_come_in_a_contest(self):
        start = [LOST, SHOW]
        for event in (changed(LOST, 0, 150), changed(SHOW, 0, 140), (150, "take", "bob", None)):
            self.assertEqual(self.told(BEARER, start + [event])[0][2], "state")
        for event in (changed(LOST, 0, 200), changed(SHOW, 0, 200)):
            self.assertEqual(self.told(BEARER, start + [event])[0][2], "late")
        self.assertEqual(self.told(BEARER, start + [(150, "claim", "bob", None)])[0][2], "kind")

    def test_halves(self):
        for prize, parts in ((50, (25, 25)), (51, (25, 26)), (1, (0, 1)), (10 ** 30 + 1, (5 * 10 ** 29, 5 * 10 ** 29 + 1))):
            for now, behind in ((229, ("contested", "bob", "cid")), (230, ("paid", (("bob", parts[0]), ("cid", parts[1])))), (10 ** 9, None)):
                found = self.told(BEARER, [LOST, SHOW], now, prize)[1]
                self.assertEqual(found, behind or ("paid", (("bob", parts[0]), ("cid", parts[1]))))

    def test_lost_again(self):
        self.assertEqual(self.told(BEARER, [LOST, changed(LOST, 0, 125)])[0], ["stands", "state"])
        self.assertEqual(self.told(BEARER, [LOST, changed(LOST, 0, 200)])[0], ["stands", "late"])
        self.assertEqual(self.told(BEARER, [changed(LOST, 3, WRONG_SALT), changed(LOST, 0, 125)])[0], ["paper", "stands"])

    def test_the_first_reason(self):
        # From several words that apply, the first one: over, kind, early, late, state, name, paper.
        over = [SHOW]
        self.assertEqual(self.told(BEARER, over + [(250, "claim", "ann", None)])[0][1], "over")
        self.assertEqual(self.told(BEARER, [(99, "claim", "ann", None)])[0], ["kind"])
        self.assertEqual(self.told(BEARER, [LOST, (210, "pass", "ann", "bob")])[0][1], "kind")
        self.assertEqual(self.told(BEARER, [(99, "show", "ann", WRONG_SALT)])[0], ["early"])
        self.assertEqual(self.told(BEARER, [LOST, (149, "take", "ann", None)])[0][1], "early")
        self.assertEqual(self.told(BEARER, [LOST, SHOW, (200, "show", "bob", WRONG_SALT)])[0][2], "late")
        self.assertEqual(self.told(BEARER, [LOST, (150, "show", "bob", WRONG_SALT)])[0][1], "late")
        self.assertEqual(self.told(BEARER, [LOST, SHOW, (140, "show", "bob", WRONG_SALT)])[0][2], "state")
        self.assertEqual(self.told(BEARER, [LOST, (140, "show", "bob", WRONG_SALT)])[0][1], "name")
        self.assertEqual(self.told(BEARER, [LOST, (140, "show", "cid", WRONG_SALT)])[0][1], "paper")


class AnyEvents(Case):
    def test_against_a_plain_way(self):
        chance = random.Random(170)
        states, reasons = set(), set()
        for turn in range(400):
            ticket = (NAMED, BEARER)[turn % 4 > 0]
            events = any_events(chance, ticket[1], chance.randint(0, 14), chance.choice((210, 240, 300)))
            self.assertIs(is_claims(events), True)
            last = events[-1][0] if events else 0
            for now in (last, last + 1, 199, 200, 229, 230, 10 ** 9):
                if now >= last:
                    found = self.told(ticket, events, now, chance.choice((0, 1, 50, 51, 51, 51)))
                    states.add(found[1][0])
                    reasons.update(found[0])
        self.assertEqual(states, {"open", "reported", "contested", "paid", "lapsed"})
        self.assertEqual(reasons, {"stands", "over", "kind", "early", "late", "state", "name", "paper"})

    def test_sixty_events(self):
        events = [(120, "pass", "ann", "ann")] * 59 + [(120, "claim", "ann", None)]
        self.assertEqual(self.told(NAMED, events), (["stands"] * 60, ("paid", (("ann", 50),))))
        self.assertIs(is_claims(events), True)
        self.assertIs(is_claims(events[:1] + events), False)

    def test_nothing_is_shared(self):
        events = [LOST, SHOW]
        found = words(TERMS, BEARER, 50, events, 140)
        found.clear()
        self.assertEqual(words(TERMS, BEARER, 50, events, 140), ["stands", "stands"])


if __name__ == "__main__":
    unittest.main()
