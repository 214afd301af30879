"""Points 173 to 175: what can still come of a ticket."""

import random
import unittest
from functools import lru_cache
from unittest import mock

from lotshown.claims import is_claims, slip_value, state, words
from lotshown.lapses import course_to, ends, is_cast, is_course
from lotshown.promises import opens, promise
from tests.kinds import ODD_VALUES
from tests.tickets import SLIP_SALT, STUB_SALT, WRONG_SALT, any_events, bearer

TERMS = (2, 100, 200, 30)
NAMED = (7, "named", "ann")
BEARER = bearer(2, 7)
LOST = (120, "lost", "bob", STUB_SALT)
SHOW = (130, "show", "cid", SLIP_SALT)
NO_SALTS = ("one", "two", None, None)
SLIP = ("one", "two", SLIP_SALT, None)
STUB = ("one", "two", None, STUB_SALT)
BOTH = ("one", "two", SLIP_SALT, STUB_SALT)
CASTS = (NO_SALTS, SLIP, STUB, BOTH)
LAPSED = ("lapsed",)


def paid(name, prize=50):
    return ("paid", ((name, prize),))


def changed(row, at, value):
    return row[:at] + (value,) + row[at + 1:]


class Casts(unittest.TestCase):
    def test_casts(self):
        for cast in CASTS:
            self.assertIs(is_cast(TERMS, BEARER, [LOST, SHOW], cast), True)
        self.assertIs(is_cast(TERMS, NAMED, [], NO_SALTS), True)
        # Another salt that opens the slip, if there is one, does as well.
        self.assertIs(is_cast(TERMS, BEARER, [], ("ann", "bob", SLIP_SALT, STUB_SALT)), True)

    def test_names(self):
        events = [(120, "pass", "ann", "bob"), (130, "claim", "cid", None), (200, "show", "dan", SLIP_SALT)]
        for name, right in (("ann", False), ("bob", False), ("cid", False), ("dan", False), ("eve", True), ("two", False)):
            self.assertIs(is_cast(TERMS, NAMED, events, (name, "two", None, None)), right)
            self.assertIs(is_cast(TERMS, NAMED, events, ("two", name, None, None)), right)
        self.assertIs(is_cast(TERMS, NAMED, [], ("ann", "two", None, None)), False)
        # A bearer's ticket has had no name.
        self.assertIs(is_cast(TERMS, BEARER, [], ("ann", "two", None, None)), True)
        for name in ("", "Ann", "a" * 17, None, 5, True, ("eve",)):
            self.assertIs(is_cast(TERMS, NAMED, [], (name, "two", None, None)), False)
            self.assertIs(is_cast(TERMS, NAMED, [], ("one", name, None, None)), False)

    def test_salts(self):
        for slip, stub, right in ((WRONG_SALT, None, False), (None, WRONG_SALT, False), (STUB_SALT, None, False), (None, SLIP_SALT, False),
                                  (STUB_SALT, SLIP_SALT, False), (list(SLIP_SALT), None, False), (SLIP_SALT[:15], None, False), (0, None, False),
                                  (None, False, False), ("", None, False), ((), None, False), (SLIP_SALT, WRONG_SALT, False), ((True,) * 16, None, False)):
            self.assertIs(is_cast(TERMS, BEARER, [], ("one", "two", slip, stub)), right)
        for slip, stub in ((SLIP_SALT, None), (None, STUB_SALT), (SLIP_SALT, STUB_SALT)):
            self.assertIs(is_cast(TERMS, NAMED, [], ("one", "two", slip, stub)), False)
        other = (8, "bearer", BEARER[2])
        self.assertIs(is_cast(TERMS, other, [], SLIP), False)
        self.assertIs(is_cast(TERMS, other, [], STUB), False)
        self.assertIs(is_cast(TERMS, (7, "bearer", (promise(2, WRONG_SALT, slip_value(7)), "0000")), [], ("one", "two", WRONG_SALT, None)), True)

    def test_other_kinds(self):
        for value in ODD_VALUES + (list(BOTH), BOTH[:3], BOTH + (None,)):
            self.assertIs(is_cast(TERMS, BEARER, [], value), False)
            self.assertIs(is_cast(TERMS, BEARER, [], (value, "two", None, None)), isinstance(value, str) and value in ("a", "ann"))
            self.assertIs(is_cast(TERMS, BEARER, [], ("one", "two", value, None)), value is None)


class Ends(unittest.TestCase):
    def told(self, ticket, events, now, cast, right, prize=50):
        """Compare the ends, and ask for a course to each of them."""
        before = list(events)
        self.assertIs(is_cast(TERMS, ticket, events, cast), True)
        right = sorted(right, key=lambda row: (row[1], row[0]))
        self.assertEqual(ends(TERMS, ticket, prize, events, now, cast), right)
        for end, price, last in right:
            course = course_to(TERMS, ticket, prize, events, now, cast, end)
            self.assertEqual(len(course), price)
            self.assertEqual(course[0][0] if course else None, last)
            self.assertIs(is_course(TERMS, ticket, prize, events, now, cast, course), True)
            self.assertEqual(state(TERMS, ticket, prize, events + course, 230), end)
            course.append(None)
        self.assertEqual(events, before)

    def test_of_the_document(self):
        events = [(90, "claim", "ann", None), (120, "pass", "ann", "bob"), (130, "claim", "ann", None)]
        self.told(NAMED, events, 130, ("cid", "dan", None, None), [(LAPSED, 0, None), (paid("bob"), 1, 199), (paid("cid"), 2, 199)])

    def test_open_named(self):
        for now in (0, 99, 100, 198, 199):
            self.told(NAMED, [], now, NO_SALTS, [(LAPSED, 0, None), (paid("ann"), 1, 199), (paid("one"), 2, 199)])
        for now in (200, 229, 230):
            self.told(NAMED, [], now, NO_SALTS, [(LAPSED, 0, None)])

    def test_open_bearer(self):
        halves = ("paid", (("two", 25), ("one", 25)))
        rows = {SLIP: [(paid("one"), 1, 199)], STUB: [(paid("two"), 2, 199)], NO_SALTS: [], BOTH: [(paid("one"), 1, 199), (paid("two"), 2, 199), (halves, 2, 199)]}
        for now in (0, 99, 100, 150, 198, 199):
            for cast in CASTS:
                self.told(BEARER, [], now, cast, [(LAPSED, 0, None)] + rows[cast])
        for now in (200, 230, 10 ** 6):
            for cast in CASTS:
                self.told(BEARER, [], now, cast, [(LAPSED, 0, None)])

    def test_reported(self):
        for since in (120, 169, 170, 171, 199):
            lost = changed(LOST, 0, since)
            before = min(200, since + 30)
            show = [(("paid", (("bob", 25), ("one", 25))), 1, before - 1), (paid("one"), 2, before - 1)]
            rows = [(LAPSED, 0, None), (paid("bob"), 1, 229)]
            for now in (since, before - 1):
                for cast in CASTS:
                    self.told(BEARER, [lost], now, cast, rows + (show if cast[2] else []))
            for now in (before, 228, 229):
                for cast in CASTS:
                    self.told(BEARER, [lost], max(now, since), cast, rows)
            for cast in CASTS:
                self.told(BEARER, [lost], 230, cast, [(LAPSED, 0, None)])

    def test_contested(self):
        halves = ("paid", (("bob", 25), ("cid", 25)))
        for now in (130, 200, 229):
            for cast in CASTS:
                self.told(BEARER, [LOST, SHOW], now, cast, [(halves, 0, None), (paid("bob"), 1, 229), (paid("cid"), 1, 229)])
        for cast in CASTS:
            self.told(BEARER, [LOST, SHOW], 230, cast, [(halves, 0, None)])

    def test_paid_and_lapsed(self):
        for now in (150, 199, 229, 230):
            self.told(NAMED, [(150, "claim", "ann", None)], now, NO_SALTS, [(paid("ann"), 0, None)])
            self.told(BEARER, [SHOW], now, BOTH, [(paid("cid"), 0, None)])
            self.told(NAMED, [], now, NO_SALTS, [(LAPSED, 0, None)], 0)
            self.told(BEARER, [], now, BOTH, [(LAPSED, 0, None)], 0)

    def test_odd_prizes(self):
        for prize, parts in ((1, (0, 1)), (51, (25, 26))):
            self.told(BEARER, [], 150, BOTH, [(LAPSED, 0, None), (paid("one", prize), 1, 199), (paid("two", prize), 2, 199),
                                              (("paid", (("two", parts[0]), ("one", parts[1]))), 2, 199)], prize)
            self.told(BEARER, [LOST, SHOW], 150, BOTH, [(("paid", (("bob", parts[0]), ("cid", parts[1]))), 0, None), (paid("bob", prize), 1, 229),
                                                       (paid("cid", prize), 1, 229)], prize)

    def test_what_is_no_end(self):
        for end in (paid("bob"), paid("two"), paid("ann", 49), ("open", "ann"), ("paid", (("two", 25), ("one", 25)))):
            self.assertIsNone(course_to(TERMS, NAMED, 50, [], 150, NO_SALTS, end))
        self.assertIsNone(course_to(TERMS, BEARER, 50, [], 150, SLIP, paid("two")))
        self.assertIsNone(course_to(TERMS, BEARER, 50, [LOST], 150, BOTH, paid("one")))
        self.assertIsNone(course_to(TERMS, BEARER, 50, [LOST, SHOW], 150, BOTH, LAPSED))
        self.assertEqual(course_to(TERMS, NAMED, 50, [], 150, NO_SALTS, LAPSED), [])

    def test_fifty_five_events(self):
        events = [(120, "claim", "bob", None)] * 55
        self.told(NAMED, events, 120, NO_SALTS, [(LAPSED, 0, None), (paid("ann"), 1, 199), (paid("one"), 2, 199)])
        events = [changed(LOST, 3, WRONG_SALT)] * 54 + [LOST]
        self.told(BEARER, events, 120, BOTH, [(LAPSED, 0, None), (paid("bob"), 1, 229), (("paid", (("bob", 25), ("one", 25))), 1, 149), (paid("one"), 2, 149)])


# Small terms, so that all courses can be gone through.
SMALL = (2, 2, 5, 2)
END = 7


def all_steps(ticket, standing, now, cast):
    """List all events that a course may have at a time, whether they stand or not."""
    one, two, slip, stub = cast
    names = {"one", "two", "ann", "bob", "cid"} | {part for part in standing[1:] if isinstance(part, str)}
    steps = []
    for name in sorted(names):
        steps += [(now, "claim", name, None), (now, "pass", name, one)] if ticket[1] == "named" else []
        steps += [(now, word, name, None) for word in ("take", "yield", "rule")]
    if slip:
        steps.append((now, "show", one, slip))
    if stub:
        steps.append((now, "lost", two, stub))
    return steps


def plain_ends(ticket, prize, events, now, cast, most):
    """Return the ends with their prices and last times by going through all courses of at most so many events."""
    found = {}
    waiting = [[]]
    for size in range(most + 1):
        longer = []
        for course in waiting:
            end = state(SMALL, ticket, prize, events + course, END)
            price, last = found.get(end, (size, None))
            if price == size:
                first = course[0][0] if course else None
                found[end] = (size, first if last is None else max(first, last))
            if size == most:
                continue
            start = course[-1][0] if course else now
            for time in range(start, END + 1):
                standing = state(SMALL, ticket, prize, events + course, time)
                for event in all_steps(ticket, standing, time, cast):
                    more = course + [event]
                    if words(SMALL, ticket, prize, events + more, time)[-1] == "stands":
                        longer.append(more)
        waiting = longer
    return sorted([(end, price, last) for end, (price, last) in found.items()], key=lambda row: (row[1], row[0]))


class AllCourses(unittest.TestCase):
    def setUp(self):
        # The same salts open the same seals over and over.
        patch = mock.patch("lotshown.claims.opens", lru_cache(None)(opens))
        patch.start()
        self.addCleanup(patch.stop)

    def test_from_the_start(self):
        for ticket, casts in ((NAMED, CASTS[:1]), (BEARER, CASTS)):
            for cast in casts:
                for now in range(END + 2):
                    self.assertEqual(ends(SMALL, ticket, 3, [], now, cast), plain_ends(ticket, 3, [], now, cast, 3))

    def test_behind_events(self):
        lost, show = (3, "lost", "bob", STUB_SALT), (3, "show", "cid", SLIP_SALT)
        for events in ([lost], [changed(lost, 0, 2)], [changed(lost, 0, 4)], [lost, show], [show], [lost, (5, "take", "bob", None)]):
            for cast in CASTS:
                for now in range(events[-1][0], END + 2):
                    self.assertEqual(ends(SMALL, BEARER, 3, events, now, cast), plain_ends(BEARER, 3, events, now, cast, 3))
        for events in ([(3, "pass", "ann", "bob")], [(2, "claim", "bob", None)], [(2, "claim", "ann", None)]):
            for now in range(events[-1][0], END + 2):
                self.assertEqual(ends(SMALL, NAMED, 3, events, now, NO_SALTS), plain_ends(NAMED, 3, events, now, NO_SALTS, 3))

    def test_any_events_and_longer_waits(self):
        chance = random.Random(175)
        for _ in range(60):
            ticket = (NAMED, BEARER, BEARER)[chance.randint(0, 2)]
            events = any_events(chance, ticket[1], chance.randint(0, 4), 6)
            now = max([event[0] for event in events], default=0) + chance.randint(0, 1)
            cast = NO_SALTS if ticket == NAMED else chance.choice(CASTS)
            self.assertEqual(ends(SMALL, ticket, 3, events, now, cast), plain_ends(ticket, 3, events, now, cast, 2))
            # The ends follow from the state alone.
            standing = state(SMALL, ticket, 3, events, now)
            for end, price, last in ends(SMALL, ticket, 3, events, now, cast):
                course = course_to(SMALL, ticket, 3, events, now, cast, end)
                self.assertIs(is_course(SMALL, ticket, 3, events, now, cast, course), True)
                self.assertEqual(state(SMALL, ticket, 3, events + course, END), end)
                if price == 0 and standing[0] in ("paid", "lapsed"):
                    self.assertEqual(end, standing)


class Courses(unittest.TestCase):
    def course(self, ticket, events, now, cast, value):
        return is_course(TERMS, ticket, 50, events, now, cast, value)

    def test_named(self):
        right = [(150, "pass", "ann", "one"), (150, "pass", "one", "one"), (199, "claim", "one", None)]
        for many in range(4):
            self.assertIs(self.course(NAMED, [], 150, NO_SALTS, right[:many]), True)
        for at, value in (
            (0, (149, "pass", "ann", "one")), (0, (150, "pass", "ann", "two")), (0, (150, "pass", "ann", "bob")), (0, (150, "pass", "ann", "ann")),
            (0, (150, "pass", "bob", "one")), (0, (150, "claim", "ann", None)), (0, (150, "claim", "one", None)), (2, (200, "claim", "one", None)),
            (2, (149, "claim", "one", None)), (2, (199, "claim", "ann", None)), (1, (151, "show", "one", SLIP_SALT)), (0, (160, "take", "ann", None)),
            (0, list(right[0])), (0, right[0][:3]), (0, None), (2, (199, "claim", "one", 0)), (1, (200, "pass", "one", "one")),
        ):
            wrong = list(right)
            wrong[at] = value
            self.assertIs(self.course(NAMED, [], 150, NO_SALTS, wrong), False, value)
        for taker in ("one", "two", "ann", "bob"):
            self.assertIs(self.course(NAMED, [], 150, NO_SALTS, [(150, "pass", "ann", taker)]), taker == "one")
        self.assertIs(self.course(NAMED, [], 150, NO_SALTS, right[1:]), False)
        self.assertIs(self.course(NAMED, [], 150, NO_SALTS, right + right[-1:]), False)
        self.assertIs(self.course(NAMED, [], 150, NO_SALTS, tuple(right)), False)
        self.assertIs(self.course(NAMED, [(150, "pass", "ann", "bob")], 150, NO_SALTS, right), False)
        self.assertIs(self.course(NAMED, [(150, "pass", "ann", "bob")], 150, NO_SALTS, [(150, "claim", "bob", None)]), True)

    def test_bearer(self):
        lost, show, take = (150, "lost", "two", STUB_SALT), (160, "show", "one", SLIP_SALT), (180, "take", "two", None)
        for course in ([], [lost], [show], [lost, show], [lost, take], [lost, show, (170, "yield", "one", None)], [lost, show, (229, "rule", "two", None)],
                       [lost, show, (170, "rule", "one", None)], [lost, show, (170, "yield", "two", None)], [lost, changed(take, 0, 229)]):
            self.assertIs(self.course(BEARER, [], 150, BOTH, course), True, course)
        for course in (
            [changed(lost, 2, "one")], [changed(lost, 2, "dan")], [changed(lost, 3, SLIP_SALT)], [changed(lost, 0, 149)], [changed(lost, 0, 200)],
            [changed(show, 2, "two")], [changed(show, 2, "cid")], [changed(show, 3, STUB_SALT)], [changed(show, 0, 200)], [show, lost],
            [lost, changed(take, 0, 179)], [lost, changed(take, 2, "one")], [lost, changed(take, 0, 230)], [take], [lost, changed(show, 0, 180)],
            [lost, show, (170, "rule", "dan", None)], [lost, show, (170, "yield", "cid", None)], [lost, show, (230, "rule", "two", None)],
            [lost, show, (159, "rule", "two", None)], [lost, (170, "rule", "two", None)], [show, show], [show, take], [lost, show, (170, "rule", "two", 0)],
        ):
            self.assertIs(self.course(BEARER, [], 150, BOTH, course), False, course)
        # Without the salts nobody shows, and nobody says that the ticket is lost.
        self.assertIs(self.course(BEARER, [], 150, SLIP, [lost]), False)
        self.assertIs(self.course(BEARER, [], 150, STUB, [show]), False)
        self.assertIs(self.course(BEARER, [], 150, SLIP, [show]), True)
        self.assertIs(self.course(BEARER, [LOST], 130, SLIP, [(140, "show", "one", SLIP_SALT), (150, "yield", "bob", None)]), True)
        self.assertIs(self.course(BEARER, [LOST], 130, NO_SALTS, [(150, "take", "bob", None)]), True)
        self.assertIs(self.course(BEARER, [LOST], 130, NO_SALTS, [(149, "take", "bob", None)]), False)

    def test_sixty_events(self):
        events = [(120, "claim", "bob", None)] * 55
        self.assertIs(is_claims(events), True)
        passes = [(150, "pass", "ann", "one")] + [(150, "pass", "one", "one")] * 5
        for many in range(7):
            self.assertIs(self.course(NAMED, events, 150, NO_SALTS, passes[:many]), many <= 5)
        self.assertIs(self.course(NAMED, [], 150, NO_SALTS, passes[:1] + passes[1:2] * 59), True)
        self.assertIs(self.course(NAMED, [], 150, NO_SALTS, passes[:1] + passes[1:2] * 60), False)

    def test_other_kinds(self):
        for value in ODD_VALUES:
            self.assertIs(self.course(NAMED, [], 150, NO_SALTS, value), isinstance(value, list) and value == [])
            self.assertIs(self.course(NAMED, [], 150, NO_SALTS, [value]), False)
            self.assertIs(self.course(BEARER, [], 150, BOTH, [(150, "show", "one", value)]), False)
            self.assertIs(self.course(NAMED, [], 150, NO_SALTS, [(value, "claim", "ann", None)]), False)

    def test_nothing_is_shared(self):
        rows = ends(TERMS, BEARER, 50, [], 150, BOTH)
        rows.clear()
        self.assertEqual(len(ends(TERMS, BEARER, 50, [], 150, BOTH)), 4)


if __name__ == "__main__":
    unittest.main()
