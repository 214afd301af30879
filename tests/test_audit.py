"""Points 195 to 199: entries, publications, their faults, what is settled, and clashes."""

import random
import unittest

from lotshown.audit import clash, entry_of, fault, sale_of, settled
from lotshown.books import is_sorted
from lotshown.charter import pick_by
from lotshown.digest import is_coincidence
from lotshown.drawing import result
from lotshown.errors import Malformed, OutOfRange, Refused
from lotshown.groves import root
from lotshown.hits import wins
from lotshown.octets import of_number
from lotshown.office import Office
from lotshown.prizes import settle, start_state
from lotshown.promises import promise
from lotshown.scripts import line_of_deed
from tests.kinds import ODD_VALUES
from tests.offices import (
    BROAD, SHARES, SHARES_OF_OCTETS, SMALL_GROUP, TURNS, TURNS_OF_OCTETS, WAYS, any_office, any_sale, changed, parties_of, replayed, sealed,
)

SALT = (9,) * 16
SALE = ("sell", "sal", 7, ((1, 2, 5),), "named", "ann")
NAMES = ("round", "promises", "size", "root", "papers", "deeds", "times", "result", "outcome", "prizes")


def sale(number, system=((1, 2, 5),), seller="sal", holder="ann"):
    return ("sell", seller, number, system, "named", holder)


def put(publications, at, name, value):
    """Put another value into a bulletin."""
    bulletin, book = publications[at]
    return publications[:at] + [(changed(bulletin, NAMES.index(name), value), book)] + publications[at + 1:]


def put_book(charter, publications, at, book):
    """Put another book with its size and root into a publication."""
    bulletin = changed(changed(publications[at][0], 2, len(book)), 3, root(charter[0], book))
    return publications[:at] + [(bulletin, book)] + publications[at + 1:]


def told(publications, at, name):
    return publications[at][0][NAMES.index(name)]


class Entries(unittest.TestCase):
    def test_entries(self):
        self.assertEqual(entry_of(TURNS, SALE), (0,) * 7 + (7,) + tuple(b"sell sal 7 named ann 13"))
        self.assertEqual(sale_of(TURNS, entry_of(TURNS, SALE)), SALE)
        self.assertEqual(entry_of(TURNS, sale(999999))[:8], (0, 0, 0, 0, 0, 15, 66, 63))

    def test_there_and_back(self):
        chance = random.Random(195)
        for charter in WAYS + (BROAD,):
            rows = [any_sale(charter, chance, {}) for _ in range(40)]
            entries = [entry_of(charter, row) for row in rows]
            self.assertEqual([sale_of(charter, entry) for entry in entries], rows)
            # Entries ascend as the numbers do.
            unique = {row[2]: entry for row, entry in zip(rows, entries)}
            self.assertTrue(is_sorted(tuple(unique[number] for number in sorted(unique))))
            for entry in entries[:15]:
                for _ in range(40):
                    at = chance.randrange(len(entry))
                    wrong = changed(entry, at, chance.choice((chance.randint(0, 255), chance.randint(32, 122))))
                    found = sale_of(charter, wrong)
                    self.assertTrue(found is None or entry_of(charter, found) == wrong)
                    self.assertIs(found is None, wrong != entry and found is None)

    def test_one_sign_changed(self):
        entry = entry_of(TURNS, SALE)
        for at in range(8):
            for octet in (0, 1, 7, 255):
                self.assertEqual(sale_of(TURNS, changed(entry, at, octet)), SALE if entry[at] == octet else None)
        for wrong in (entry[:8], entry[:7], (), entry[:-1], entry + (32,), entry + (48,), entry[1:], entry[:8] + tuple(b"Sell sal 7 named ann 13"),
                      entry[:8] + tuple(b"sell sal 8 named ann 13"), entry[:8] + tuple(b"sell sal 07 named ann 13"), entry[:8] + tuple(b"seal"), entry[:8] + tuple(b"pass 7"),
                      entry[:8] + tuple(b"sell sal 7 named ann 13\n"), entry[:-1] + (200,), entry[:8] + tuple(b"withhold sal"), entry[:8] + tuple(b"sell sal 7 named ann 33"),
                      entry[:8] + tuple(b"#sell sal 7 named ann 13"), list(entry), entry[:10] + (True,) + entry[11:], entry[:8] + ("s",) + entry[9:]):
            self.assertIsNone(sale_of(TURNS, wrong))
        for value in ODD_VALUES + (entry * 500, (0,) * 10001, SALE, "sell sal 7 named ann 13"):
            self.assertIsNone(sale_of(TURNS, value))


class Right(unittest.TestCase):
    def test_publications_of_offices(self):
        chance = random.Random(196)
        for charter in WAYS:
            self.assertIsNone(fault(charter, []))
            self.assertEqual(settled(charter, []), [])
            for _ in range(6):
                office = any_office(charter, chance, 4)
                publications = office.publications()
                for many in range(5):
                    self.assertIsNone(fault(charter, publications[:many]))
                self.assertTrue(replayed(charter, publications))
                # Only in their order, and from the first one on.
                self.assertEqual(fault(charter, publications[1:]), (0, "form"))
                self.assertEqual(fault(charter, publications[:1] * 2), (1, "form"))
                self.assertEqual(fault(charter, publications + publications[:1]), (4, "form"))

    def test_what_is_settled(self):
        chance = random.Random(199)
        for charter in WAYS:
            office = any_office(charter, chance, 4)
            publications = office.publications()
            rows = settled(charter, publications)
            self.assertEqual(len(rows), 4)
            state = start_state(charter[3])
            for at, ((bulletin, book), (drawn, tickets, found)) in enumerate(zip(publications, rows)):
                self.assertEqual(drawn, pick_by(charter, result(charter, bulletin[1], bulletin[4], bulletin[5])))
                sales = [sale_of(charter, entry) for entry in book]
                wanted = [wins(charter[1], charter[2], row[3], drawn) for row in sales]
                self.assertEqual([ticket[:2] for ticket in tickets], [(row[2], win) for row, win in zip(sales, wanted)])
                self.assertEqual(tickets, sorted(tickets))
                self.assertEqual(bulletin[8][1], tuple(sum(win[place] for win in wanted) for place in range(2)))
                self.assertEqual(found, settle(charter[3], state, bulletin[8]))
                self.assertEqual(found[0], bulletin[9])
                for number, win, prize in tickets:
                    self.assertEqual(prize, sum(many * money for many, money in zip(win, found[0])))
                    self.assertEqual(prize, office.prize(at, number))
                state = found[2]
            for wrong in (publications[1:], put(publications, 3, "prizes", (0, 1)), put(publications, 0, "result", 10 ** 6)):
                with self.assertRaises(Malformed):
                    settled(charter, wrong)
            rows[0][1].append(None)
            rows.clear()
            self.assertEqual(len(settled(charter, publications)), 4)
            self.assertEqual(publications, office.publications())


class Faults(unittest.TestCase):
    """Three rounds by turns, whose second one has tickets of both sellers, and all parties reveal."""

    def setUp(self):
        self.charter = TURNS
        self.office = Office(self.charter)
        self.parties = []
        for at in range(3):
            self.parties.append(parties_of(self.charter, at, random.Random(197 + at)))
            for party in self.parties[-1]:
                self.office.do(party.promise())
            for number in (7, 3, 70):
                self.office.do(sale(number))
            self.office.do(sale(52, ((1, 2),), "tom"))
            self.office.do(("pass", 100 * at + 10))
            self.office.do(("seal",))
            for step, party in enumerate(self.parties[-1]):
                self.office.do(("pass", 100 * at + 20 + step))
                self.office.do(party.reveal())
            self.office.do(("pass", 100 * at + 30))
            self.office.do(("draw",))
        self.right = self.office.publications()

    def wrong(self, publications, at, word):
        self.assertEqual(fault(self.charter, publications), (at, word))
        with self.assertRaises(Malformed):
            settled(self.charter, publications)
        self.assertFalse(replayed(self.charter, publications))

    def each(self, name, values, word):
        for at in range(3):
            for value in values(at):
                self.wrong(put(self.right, at, name, value), at, word)

    def test_right(self):
        self.assertIsNone(fault(self.charter, self.right))
        self.assertTrue(replayed(self.charter, self.right))

    def test_form(self):
        self.each("round", lambda at: (at + 1, at - 1, None, str(at), float(at), (at,), at == 1), "form")
        self.each("promises", lambda at: (None, (), [None] * 3, (None,) * 2, (None,) * 4, (None, None, ""), (None, None, "00"), (None, None, "0011223G"), (None, None, 5)), "form")
        self.each("papers", lambda at: (None, (), [None] * 3, (None,) * 2, (None,) * 4, (None, None, (((), (), ()), SALT)), (0, None, None), (None, None, ())), "form")
        self.each("times", lambda at: (None, (), list(told(self.right, at, "times")), told(self.right, at, "times")[:3], told(self.right, at, "times") + (100 * at + 40,),
                                       changed(told(self.right, at, "times"), 3, 10 ** 9 + 1), changed(told(self.right, at, "times"), 0, -1),
                                       changed(told(self.right, at, "times"), 0, None), changed(told(self.right, at, "times"), 0, True), ("1", "2", "3", "4")), "form")
        for at in range(3):
            bulletin, book = self.right[at]
            for value in ODD_VALUES + (bulletin[:9], bulletin + (1,), list(bulletin)):
                self.wrong(self.right[:at] + [(value, book)] + self.right[at + 1:], at, "form")

    def test_book(self):
        entries = {number: entry_of(self.charter, sale(number)) for number in (3, 7, 8, 49, 50, 60, 65, 70, 999, 1000)}
        self.each("size", lambda at: (3, 5, 0, None, "4", 4.0, (4,), -4), "book")
        self.each("root", lambda at: ("00000000", told(self.right, at, "root").upper() + "", told(self.right, at, "root")[:6], None, 5,
                                      told(self.right, (at + 1) % 3, "deeds")), "book")
        for at in range(3):
            bulletin, book = self.right[at]
            self.assertEqual(len(book), 4)
            # A ticket left out, put in, or doubled, with the old size and root.
            for value in (book[:3], book[1:], book + (entries[999],), list(book), None, (), book[::-1], book[:1] + book):
                self.wrong(self.right[:at] + [(bulletin, value)] + self.right[at + 1:], at, "book")
            # And with those of the new book.
            for value in (
                book[::-1], book[:1] + book, (book[1], book[0]) + book[2:], tuple(sorted(book + (entries[50],))), tuple(sorted(book + (entries[60],))),
                tuple(sorted(book + (entries[65],))), book + (entries[1000],), book + (entries[999][:-1],), book + (entries[999] + (48,),), (entries[3], (1, 2)),
                tuple(sorted(book + (entry_of(self.charter, sale(7, ((1, 3),))),))), tuple(sorted(book + (entry_of(self.charter, sale(49, ((1, 2),), "tom")),))),
                tuple(sorted(book + (entry_of(self.charter, sale(8, ((1, 2),), "nobody")),))), ((0,) * 8,) + book,
            ):
                self.wrong(put_book(self.charter, self.right, at, value), at, "book")
        for value in ODD_VALUES:
            self.wrong(self.right[:2] + [(self.right[2][0], value)], 2, "book")
            self.wrong(self.right[:2] + [(self.right[2][0], self.right[2][1][:3] + (value,))], 2, "book")
        # What may be sold leads to another outcome then.
        more = tuple(sorted(self.right[1][1] + (entries[8], entries[49])))
        self.wrong(put_book(self.charter, self.right, 1, more), 1, "outcome")

    def test_deeds(self):
        self.each("deeds", self.wrong_deeds, "deeds")

    def wrong_deeds(self, at):
        deeds = told(self.right, at, "deeds")
        other = self.parties[(at + 1) % 3]
        yield from (None, (), list(deeds), deeds[:2], deeds[1:], deeds + deeds[:1], deeds[::-1], (deeds[1], deeds[0], deeds[2]), deeds[:1] * 3, 5, "deeds")
        yield from (changed(deeds, 1, value) for value in (None, (), ("seal",), ("draw",), other[1].reveal(), ("withhold", "pat"), ("withhold", "nobody"), list(deeds[1]),
                                                           changed(deeds[1], 2, deeds[1][2] + 1), changed(deeds[1], 2, 10), changed(deeds[1], 3, SALT),
                                                           changed(deeds[1], 3, deeds[1][3] + (0,)), changed(deeds[1], 1, "pat"), ("promise", "quin", "00000000"),
                                                           ("help", "quin", 1, 2, 3), changed(deeds[1], 2, None), changed(deeds[1], 2, True), deeds[1] + (1,)))

    def test_seals(self):
        for at in range(3):
            promises = told(self.right, at, "promises")
            for value in (changed(promises, 0, promises[1]), changed(promises, 0, "00000000"), changed(promises, 2, None), (None,) * 3,
                          told(self.right, (at + 1) % 3, "promises"), (promises[1], promises[0], promises[2])):
                self.wrong(put(self.right, at, "promises", value), at, "deeds")
            # Who promised and withheld may have promised anything.
            silent = put(self.right, at, "deeds", changed(told(self.right, at, "deeds"), 2, ("withhold", "abe")))
            for mark in ("00000000", promises[0], promises[2]):
                self.assertIn(fault(self.charter, put(silent, at, "promises", changed(promises, 2, mark))), ((at, "result"), None))

    def test_times(self):
        for at in range(3):
            end, first, last, draw = told(self.right, at, "times")
            before = told(self.right, at - 1, "times")[3] if at else 0
            for times, right in (
                ((end, first, last, draw), True), ((before, first, last, draw), True), ((before - 1, first, last, draw), False), ((end, end, last, draw), True),
                ((end, end, draw, draw), True), ((end, end - 1, last, draw), False), ((first, first, last, draw), True), ((first + 1, first, last, draw), False),
                ((end, last, first, draw), False), ((end, last, last, draw), True), ((end, first, draw + 1, draw), False), ((end, first, last, last), True),
                ((end, first, last, last - 1), False), ((end, end, end, end), True), ((draw,) * 4, True),
            ):
                if min(times) < 0:
                    continue
                value = put(self.right, at, "times", times)
                # A draw that comes later may come behind the end of the next sale.
                self.assertEqual(fault(self.charter, value), None if right else (at, "deeds"), times)
                self.assertEqual(replayed(self.charter, value), right)
            late = (10 ** 9 - 129, 10 ** 9 - 130)
            for time, right in zip(late, (False, True)):
                value = put(self.right, at, "times", (end, first, last, time))[:at + 1]
                self.assertEqual(fault(self.charter, value), None if right else (at, "deeds"))
                self.assertEqual(replayed(self.charter, value), right)

    def test_times_of_one_turn_and_of_none(self):
        rows = {0: (None,) * 3, 1: (None, self.parties[0][1].seal, None)}
        for turns, promises in rows.items():
            office = Office(self.charter)
            if turns:
                office.do(self.parties[0][1].promise())
            office.do(("seal",))
            office.do(("pass", 5))
            if turns:
                office.do(self.parties[0][1].reveal())
            office.do(("pass", 8))
            office.do(("draw",))
            right = office.publications()
            self.assertEqual(told(right, 0, "times"), (0, 5, 5, 8) if turns else (0, 0, 0, 8))
            self.assertEqual(told(right, 0, "promises"), promises)
            for times in ((0, 5, 5, 8), (0, 0, 0, 8), (0, 5, 6, 8), (0, 0, 5, 8), (5, 5, 5, 8), (4, 5, 5, 8), (8, 8, 8, 8), (0, 8, 8, 8)):
                fine = times[1] == times[2] and (turns or times[0] == times[1])
                self.assertEqual(fault(self.charter, put(right, 0, "times", times)), None if fine else (0, "deeds"))
                self.assertEqual(replayed(self.charter, put(right, 0, "times", times)), fine)

    def test_result_outcome_and_prizes(self):
        self.each("result", lambda at: (told(self.right, at, "result") + 1, told(self.right, at, "result") + 10, -1, None, str(told(self.right, at, "result")),
                                        float(told(self.right, at, "result")), (told(self.right, at, "result"),), True, False), "result")
        self.each("outcome", lambda at: (None, (), (10, (0,)), list(told(self.right, at, "outcome")), (11, told(self.right, at, "outcome")[1]),
                                         (10, list(told(self.right, at, "outcome")[1])), told(self.right, at, "outcome") + (1,), (10.0, told(self.right, at, "outcome")[1]),
                                         (10, (9, 9)), (10, 9)), "outcome")
        self.each("prizes", lambda at: (None, (), (1, 2), list(told(self.right, at, "prizes")), told(self.right, at, "prizes")[:1], told(self.right, at, "prizes") + (0,),
                                        tuple(float(prize) for prize in told(self.right, at, "prizes"))), "prizes")

    def test_truth_values_are_no_integers(self):
        # Where 0 and 1 are right, False and True are not.
        office = Office(self.charter)
        office.do(("seal",))
        office.do(("draw",))
        office.do(sale(7, ((1, 2),)))
        office.do(("pass", 1))
        office.do(("seal",))
        office.do(("draw",))
        right = office.publications()
        self.assertIsNone(fault(self.charter, right))
        for at, name, value, word in (
            (0, "round", False, "form"), (1, "round", True, "form"), (0, "size", False, "book"), (1, "size", True, "book"), (0, "result", False, "result"),
            (0, "outcome", (False, (0, 0)), "outcome"), (0, "outcome", (0, (False, 0)), "outcome"), (0, "prizes", (False, 0), "prizes"), (0, "times", (False, 0, 0, 0), "form"),
            (1, "times", (True, 1, 1, 1), "form"), (1, "result", False, "result"),
        ):
            self.assertEqual(fault(self.charter, put(right, at, name, value)), (at, word))

    def test_which_fault_comes_first(self):
        # Each fault hides those behind it, in its own round and in later ones.
        rows = [("round", 9, "form"), ("size", 9, "book"), ("deeds", None, "deeds"), ("result", None, "result"), ("outcome", None, "outcome"), ("prizes", None, "prizes")]
        for at in range(3):
            for place, (name, value, word) in enumerate(rows):
                publications = put(self.right, at, name, value)
                for other, another, _ in rows[place + 1:]:
                    publications = put(publications, at, other, another)
                self.wrong(publications, at, word)
                for later in range(at + 1, 3):
                    self.wrong(put(publications, later, "round", None), at, word)
        self.wrong(put(put(self.right, 2, "round", None), 0, "prizes", None), 0, "prizes")

    def test_what_is_carried_counts(self):
        # The prizes of a round are those from the rounds before: alone, it pays others.
        carried = [row[2][2] for row in settled(self.charter, self.right)]
        self.assertTrue(any(state != (0, 0) for state in carried[:2]) or all(told(self.right, at, "outcome")[1][0] for at in range(2)))

    def test_any_change_against_replaying(self):
        chance = random.Random(198)
        kept = 0
        for charter in WAYS:
            self.charter = charter
            for _ in range(12):
                office = any_office(charter, chance, 2)
                right = office.publications()
                for _ in range(14):
                    at = chance.randrange(2)
                    name = chance.choice(("promises", "papers", "deeds", "times", "times", "deeds"))
                    value = told(right, at, name)
                    wrong = list(value)
                    place = chance.randrange(len(wrong)) if wrong else 0
                    if name == "times":
                        wrong[place] = max(0, wrong[place] + chance.choice((-3, -1, 1, 2, 9)))
                    elif not wrong or chance.random() < 0.3:
                        other = told(right, 1 - at, name)
                        wrong = list(other)
                    elif chance.random() < 0.4 and name == "deeds":
                        del wrong[place]
                    elif chance.random() < 0.5 and name == "deeds":
                        wrong[place] = ("withhold", wrong[place][1])
                    elif chance.random() < 0.5:
                        wrong[place] = None
                    else:
                        wrong[place] = wrong[chance.randrange(len(wrong))]
                    publications = put(right, at, name, tuple(wrong))
                    fine = replayed(charter, publications)
                    kept += fine and publications != right
                    self.assertEqual(fault(charter, publications) is None, fine, (at, name, wrong))
        self.assertGreater(kept, 20)


class Bounds(unittest.TestCase):
    def book(self, rows):
        return tuple(entry_of(BROAD, sale(number, system)) for number, system in enumerate(rows))

    def test_picks(self):
        # Of so many of 100 numbers, 3 each: 4960 picks of 32, and 5456 of 33.
        pairs = ((0,), (1,)), ((0,), (1,), (2,))
        small, great = ((1, 2, 3),) + pairs, (tuple(range(1, 33)),) + pairs
        too_great = (tuple(range(1, 34)),) + pairs
        charter = changed(BROAD, 4, ((0, 1000, "sal"),))
        office = Office(charter)
        office.do(("seal",))
        office.do(("draw",))
        empty = office.publications()
        for rows, word in (([great, small], "outcome"), ([too_great, small], "book"), ([great] * 201, "outcome"), ([great] * 202, "book")):
            publications = put_book(charter, empty, 0, self.book(rows))
            self.assertEqual(fault(charter, publications), (0, word))


class Papers(unittest.TestCase):
    """A round by shares: one party withholds and is opened, one shows no paper."""

    def setUp(self):
        self.office = Office(SHARES)
        self.parties = parties_of(SHARES, 0, random.Random(59), (3, 9, 7))
        for party in self.parties:
            self.office.do(party.promise())
        self.office.do(("pass", 5))
        self.office.do(("seal",))
        self.office.do(("pass", 7))
        self.office.do(self.parties[0].paper((2,)))
        self.office.do(self.parties[1].paper())
        self.office.do(("pass", 15))
        for deed in (self.parties[0].withhold(), ("pass", 17), self.parties[1].reveal(), ("pass", 18), self.parties[0].help(3), self.parties[0].help(1), ("draw",)):
            self.office.do(deed)
        self.right = self.office.publications()

    def test_right(self):
        self.assertIsNone(fault(SHARES, self.right))
        self.assertEqual(told(self.right, 0, "times"), (5, 15, 17, 18))
        self.assertEqual(told(self.right, 0, "result"), 2)

    def test_wrong(self):
        papers, deeds, promises = (told(self.right, 0, name) for name in ("papers", "deeds", "promises"))
        first, second, third = self.parties
        shown = third.paper()[2:]
        for name, value, word in (
            ("papers", changed(papers, 0, list(papers[0])), "form"), ("papers", changed(papers, 0, papers[0][:1]), "form"), ("papers", changed(papers, 0, (papers[0][0], None)), "form"),
            ("papers", changed(papers, 0, (papers[0][0], SALT * 3)), "form"), ("papers", changed(papers, 0, (papers[0][0][:2], papers[0][1])), "form"),
            ("papers", changed(papers, 0, (((1,) * 7, (), ()), papers[0][1])), "form"), ("papers", changed(papers, 0, ((papers[0][0][0], (1,) * 6, ()), papers[0][1])), "form"),
            ("papers", changed(papers, 0, (papers[0][0], SALT)), "deeds"), ("papers", changed(papers, 0, papers[1]), "deeds"), ("papers", (None,) * 3, "deeds"),
            ("papers", changed(papers, 0, ((papers[0][0][0], (2,), ()), papers[0][1])), "deeds"), ("papers", changed(papers, 2, shown), "deeds"),
            ("papers", changed(papers, 0, ((papers[0][0][0], (), ()), papers[0][1])), None), ("papers", changed(papers, 1, None), "deeds"),
            ("promises", changed(promises, 0, None), "deeds"), ("promises", changed(promises, 1, promises[0]), "deeds"), ("promises", changed(promises, 2, "00000000"), None),
            ("promises", changed(promises, 2, None), None),
            ("deeds", deeds[:3], "deeds"), ("deeds", deeds[:2], "deeds"), ("deeds", deeds[:2] + deeds[3:] + deeds[2:3], None), ("deeds", deeds[:1] + deeds[2:] + deeds[1:2], "deeds"),
            ("deeds", deeds[:2] + (first.help(2), deeds[3]), None), ("deeds", deeds[:2] + (deeds[2], deeds[2]), "deeds"), ("deeds", deeds + (first.help(2),), "deeds"),
            ("deeds", (first.withhold(), second.withhold()) + deeds[2:], "deeds"), ("deeds", (first.reveal(), second.reveal()), None), ("deeds", changed(deeds, 3, first.help(4)), "deeds"),
            ("times", (5, 14, 17, 18), "deeds"), ("times", (6, 15, 17, 18), "deeds"), ("times", (4, 14, 17, 18), None), ("times", (5, 15, 17, 17), None), ("times", (5, 15, 18, 18), None),
        ):
            publications = put(self.right, 0, name, value)
            self.assertEqual(fault(SHARES, publications), None if word is None else (0, word), (name, value))
            self.assertEqual(replayed(SHARES, publications), word is None)

    def test_one_turn_and_helps(self):
        office = Office(SHARES)
        party = parties_of(SHARES, 0, random.Random(60), (3, 9, 7))[1]
        for deed in (party.promise(), ("seal",), party.paper(), ("pass", 5), party.withhold(), ("pass", 6), party.help(1), party.help(2), ("draw",)):
            office.do(deed)
        right = office.publications()
        self.assertEqual(told(right, 0, "times"), (0, 5, 5, 6))
        for times in ((0, 5, 5, 6), (0, 5, 6, 6), (0, 4, 5, 6), (0, 0, 0, 6), (0, 0, 5, 6), (0, 6, 6, 6)):
            fine = times[1] == times[2]
            self.assertEqual(fault(SHARES, put(right, 0, "times", times)), None if fine else (0, "deeds"))
            self.assertEqual(replayed(SHARES, put(right, 0, "times", times)), fine)

    def test_without_help_the_draw_waits(self):
        _, _, _, _, _, deeds, _ = self.right[0][0][:7]
        for time, word in ((26, "deeds"), (27, "result")):
            publications = put(put(self.right, 0, "deeds", deeds[:3]), 0, "times", (5, 15, 17, time))
            self.assertEqual(fault(SHARES, publications), (0, word))
        self.assertEqual(result(SHARES, told(self.right, 0, "promises"), told(self.right, 0, "papers"), list(deeds[:3])), 9)

    def test_other_groups(self):
        for threshold in (1, 2, 3):
            charter = changed(SHARES, 6, ("shares", 0, SMALL_GROUP, threshold))
            office = any_office(charter, random.Random(threshold), 3)
            self.assertIsNone(fault(charter, office.publications()))
        self.assertEqual(fault(SHARES_OF_OCTETS, self.right), (0, "deeds"))
        self.assertEqual(fault(TURNS, self.right), (0, "form"))

    def test_papers_that_were_copied(self):
        # The seal and the paper of another party, or of another round, are of no use.
        first = self.parties[0]
        mark = sealed(SHARES, 0, 0, first.salt, first.row)
        self.assertEqual(mark, first.seal)
        promises, papers = told(self.right, 0, "promises"), told(self.right, 0, "papers")
        publications = put(put(self.right, 0, "promises", changed(promises, 2, mark)), 0, "papers", changed(papers, 2, papers[0]))
        self.assertEqual(fault(SHARES, publications), (0, "deeds"))
        later = put(self.right + self.right, 1, "round", 1)
        self.assertEqual(fault(SHARES, later), (1, "deeds"))


class Clashes(unittest.TestCase):
    def pairs(self, size, chance):
        """Return two different books of the size with the same root, for the width 1."""
        met = {}
        while True:
            book = tuple(tuple(chance.randint(0, 255) for _ in range(3)) for _ in range(size))
            other = met.setdefault(root(1, book), book)
            if other != book:
                return other, book

    def test_clashes(self):
        chance = random.Random(16)
        for size in (1, 2, 3, 4, 5, 7, 8, 9):
            for _ in range(3):
                one, other = self.pairs(size, chance)
                found = clash(1, one, other)
                self.assertIs(is_coincidence(1, found), True)
                self.assertIs(is_coincidence(1, clash(1, other, one)), True)
                # One entry of a book that is changed leads to the very entry, or above it.
                for behind in (((7,),), ((7,), (8, 9))):
                    if root(1, one + behind) == root(1, other + behind):
                        self.assertIs(is_coincidence(1, clash(1, one + behind, other + behind)), True)
        leaf, twin = self.pairs(1, chance)
        for at in range(6):
            book = tuple((number,) for number in range(6))
            one, other = changed(book, at, leaf[0]), changed(book, at, twin[0])
            self.assertEqual(root(1, one), root(1, other))
            self.assertEqual(clash(1, one, other), ((3,) + leaf[0], (3,) + twin[0]))

    def test_refused(self):
        book = ((1,), (2,), (3,))
        for one, other in ((book, book), ((), ()), (book, ((1,), (2,), (4,))), (book, book[:2]), (book[:1], book[1:2]), (book, ())):
            with self.assertRaises(Refused):
                clash(32, one, other)
        one, other = self.pairs(2, random.Random(5))
        if root(2, one) != root(2, other):
            with self.assertRaises(Refused):
                clash(2, one, other)
        with self.assertRaises(Refused):
            clash(1, one, one)
        for width in (0, 33, True, None):
            for two in (other, one, book):
                with self.assertRaises(OutOfRange):
                    clash(width, one, two)

    def test_books_of_other_sizes(self):
        short = ((5,),)
        number = 0
        while root(1, (of_number(number, 3), (7,))) != root(1, short):
            number += 1
        for one, other in ((short, (of_number(number, 3), (7,))), ((of_number(number, 3), (7,)), short)):
            with self.assertRaises(Refused):
                clash(1, one, other)

    def test_two_books_of_one_bulletin(self):
        # With seals of one octet, two books with the same size and root are soon found; both are right then.
        charter = changed(TURNS, 0, 1)
        chance = random.Random(198)
        met = {}
        while True:
            number = chance.randint(0, 49)
            holder = "".join(chance.choice("abc") for _ in range(9))
            book = tuple(entry_of(charter, row) for row in sorted((sale(number, ((1, 2),), "sal", holder), sale(99, ((3, 4),)))))
            other = met.setdefault(root(1, book), book)
            if other != book:
                break
        office = Office(charter)
        for entry in book:
            office.do(sale_of(charter, entry))
        office.do(("seal",))
        office.do(("draw",))
        (bulletin, published), = office.publications()
        self.assertEqual(published, book)
        self.assertIsNone(fault(charter, [(bulletin, book)]))
        self.assertIsNone(fault(charter, [(bulletin, other)]))
        self.assertIs(is_coincidence(1, clash(1, book, other)), True)


class Slips(unittest.TestCase):
    def test_bearers_in_books(self):
        holder = (promise(4, SALT, (1,)), promise(4, SALT, (2,)))
        deed = SALE[:4] + ("bearer", holder)
        self.assertEqual(entry_of(TURNS, deed)[8:], tuple(line_of_deed(TURNS, deed).encode()))
        self.assertEqual(sale_of(TURNS, entry_of(TURNS, deed)), deed)
        self.assertIsNone(sale_of(changed(TURNS, 0, 5), entry_of(TURNS, deed)))
        self.assertIsNone(sale_of(BROAD, entry_of(TURNS, deed)))
        self.assertEqual(sale_of(TURNS_OF_OCTETS, entry_of(TURNS, deed)), deed)


if __name__ == "__main__":
    unittest.main()
