"""Points 187 to 196, 202 and 203: the office."""

import random
import unittest

from lotshown.audit import entry_of, fault, settled
from lotshown.charter import is_charter, pick_by
from lotshown.claims import state
from lotshown.errors import LotError, Malformed, NotThere, OutOfRange, Refused, TooMuch
from lotshown.groves import root
from lotshown.office import Office, office_of
from lotshown.payouts import paid_of
from lotshown.scripts import log_of, log_text
from tests.kinds import ODD_VALUES
from tests.offices import (
    PARTIES, SHARES, TABLE, TURNS, TURNS_OF_OCTETS, WAYS, any_office, changed, parties_of, play_round, sealed,
)
from tests.tickets import SLIP_SALT, STUB_SALT, WRONG_SALT, bearer

SALT = (9,) * 16
SEAL = "00ff12ab"


def sale(number, system=((1, 2, 5),), seller="sal", holder="ann"):
    return ("sell", seller, number, system, "named", holder)


def sale_of_bearer(number, system=((1, 2, 5),)):
    # The second salt is too long for a deed, so that another one is taken.
    return ("sell", "sal", number, system, "bearer", bearer(4, number, SLIP_SALT, WRONG_SALT)[2])


def told(office):
    """Return all that an office tells."""
    tickets = []
    for at, (_, book) in enumerate(office.publications()):
        for entry in book:
            number = entry[6] * 256 + entry[7]
            tickets.append((at, number, office.state(at, number), office.prize(at, number)))
    return (office.charter, office.time(), office.log(), office.current(), office.publications(), office.accounts(), tickets)


class Case(unittest.TestCase):
    def refuse(self, office, deed, error):
        """Check that a deed is refused with just this error, and changes nothing."""
        before = told(office)
        with self.assertRaises(error) as caught:
            office.do(deed)
        self.assertIs(caught.exception.__class__, error)
        self.assertEqual(told(office), before)

    def drawn(self, charter=TURNS, deeds=(), values=(1, 2, 0), at=0, office=None):
        """Return an office that has drawn a round with these deeds on sale, and with these values."""
        office = Office(charter) if office is None else office
        parties = parties_of(charter, at, random.Random(at), values)
        for deed in [party.promise() for party in parties] + list(deeds) + [("seal",)] + [party.reveal() for party in parties] + [("draw",)]:
            self.assertIsNone(office.do(deed))
        return office


class Start(Case):
    def test_a_new_office(self):
        for charter in WAYS:
            office = Office(charter)
            self.assertEqual(office.charter, charter)
            self.assertEqual(told(office), (charter, 0, [], (0, "sale"), [], (0, 0, 0, 0, 0, 10 ** 6), []))

    def test_no_charter(self):
        for value in ODD_VALUES + (list(TURNS), TURNS[:8], changed(TURNS, 0, 33), changed(TURNS, 5, ()), changed(SHARES, 6, TURNS[6][:3])):
            with self.assertRaises(Malformed):
                Office(value)
            with self.assertRaises(Malformed):
                office_of(value, [])


class Errors(Case):
    def test_no_deeds(self):
        for charter in (TURNS, SHARES):
            office = Office(charter)
            for value in ODD_VALUES + (("pass", 10 ** 9 + 1), ("pass", True), ("seal", 1), ["seal"], ("sell",) + sale(7)[1:5], sale(1000000), sale(7, ((1,),)), ("promise", "pat", "00"),
                                       ("event", 0, 7, "win", "ann", None), ("event", 0, 7, "claim", "ann", "bob"), ("withhold", "Pat")):
                self.refuse(office, value, Malformed)
        self.refuse(Office(TURNS), ("help", "pat", 1, 2, 3), Malformed)
        self.refuse(Office(TURNS), ("paper", "pat", ((), (), ()), SALT), Malformed)
        self.refuse(Office(TURNS), ("reveal", "pat", 1, 1), Malformed)
        self.refuse(Office(SHARES), ("reveal", "pat", 1, SALT), Malformed)

    def test_times(self):
        office = Office(TURNS)
        self.refuse(office, ("pass", 0), OutOfRange)
        office.do(("pass", 5))
        self.assertEqual(office.time(), 5)
        for time in (0, 4, 5):
            self.refuse(office, ("pass", time), OutOfRange)
        office.do(("pass", 6))
        office.do(("pass", 10 ** 9))
        self.refuse(office, ("pass", 10 ** 9), OutOfRange)
        self.assertEqual(office.log(), [(0, ("pass", 5)), (5, ("pass", 6)), (6, ("pass", 10 ** 9))])

    def test_promises(self):
        office = Office(TURNS)
        self.refuse(office, ("promise", "nobody", SEAL), NotThere)
        office.do(("promise", "pat", SEAL))
        self.refuse(office, ("promise", "pat", SEAL), Refused)
        self.refuse(office, ("promise", "pat", "00000000"), Refused)
        # Another one may promise the same, which it cannot open then.
        office.do(("promise", "quin", SEAL))
        office.do(("seal",))
        self.refuse(office, ("promise", "abe", SEAL), Refused)
        self.refuse(office, ("promise", "pat", SEAL), Refused)

    def test_sales(self):
        office = Office(TURNS)
        office.do(sale(7))
        self.refuse(office, sale(7), Refused)
        self.refuse(office, sale(7, ((1, 2),), "sal", "bob"), Refused)
        for number, seller in ((50, "sal"), (59, "sal"), (49, "tom"), (60, "sal"), (60, "tom"), (69, "sal"), (1000, "sal"), (999999, "sal"), (8, "nobody"), (8, "ann"), (8, "pat")):
            self.refuse(office, sale(number, ((1, 2),), seller), Refused)
        for number, seller in ((0, "sal"), (49, "sal"), (50, "tom"), (59, "tom"), (70, "sal"), (999, "sal")):
            office.do(sale(number, ((1, 2),), seller))
        office.do(("seal",))
        self.refuse(office, sale(8), Refused)
        # In the next round the numbers are free again.
        self.refuse(office, ("seal",), Refused)
        office.do(("draw",))
        office.do(sale(7))

    def test_deeds_on_sale_and_while_drawing(self):
        for charter in (TURNS, SHARES):
            office = Office(charter)
            party = parties_of(charter, 0, random.Random(1), (1, 2, 0))[0]
            office.do(party.promise())
            for deed in (party.reveal(), party.withhold(), ("draw",)) + ((party.paper(), party.help(1)) if charter == SHARES else ()):
                self.refuse(office, deed, Refused)
            office.do(("seal",))
            self.assertEqual(office.current(), (0, "drawing"))
            self.refuse(office, ("draw",), Refused)
            for name in ("nobody", "sal", "ann"):
                for deed in (party.reveal(), party.withhold(), party.promise()) + ((party.paper(), party.help(1)) if charter == SHARES else ()):
                    self.refuse(office, changed(deed, 1, name), NotThere)

    def test_turns(self):
        office = Office(TURNS)
        parties = parties_of(TURNS, 0, random.Random(1), (1, 2, 9))
        for party in parties[:2]:
            office.do(party.promise())
        office.do(("seal",))
        self.refuse(office, parties[1].reveal(), Refused)
        self.refuse(office, parties[2].withhold(), Refused)
        self.refuse(office, changed(parties[0].reveal(), 2, 2), Refused)
        self.refuse(office, changed(parties[0].reveal(), 3, SALT), Refused)
        office.do(parties[0].reveal())
        self.refuse(office, parties[0].reveal(), Refused)
        self.refuse(office, parties[0].withhold(), Refused)
        self.refuse(office, ("draw",), Refused)
        office.do(parties[1].withhold())
        self.refuse(office, parties[1].reveal(), Refused)
        office.do(("draw",))
        self.assertEqual(office.current(), (1, "sale"))
        self.assertEqual(office.publications()[0][0][5:8], ((parties[0].reveal(), parties[1].withhold()), (0, 0, 0, 0), 1))

    def test_shares(self):
        office = Office(SHARES)
        parties = parties_of(SHARES, 0, random.Random(1), (1, 2, 9))
        for party in parties:
            office.do(party.promise())
        office.do(("pass", 4))
        office.do(("seal",))
        self.refuse(office, changed(parties[0].paper(), 3, SALT), Refused)
        self.refuse(office, changed(parties[0].paper(), 1, "quin"), Refused)
        office.do(parties[0].paper())
        self.refuse(office, parties[0].paper(), Refused)
        self.refuse(office, parties[0].paper((1,)), Refused)
        office.do(parties[1].paper())
        for time in (5, 13):
            office.do(("pass", time))
            self.refuse(office, parties[0].reveal(), Refused)
            self.refuse(office, parties[0].withhold(), Refused)
        office.do(("pass", 14))
        office.do(parties[0].withhold())
        # Papers come only ahead of the first turn.
        self.refuse(office, parties[2].paper(), Refused)
        self.refuse(office, parties[0].help(1), Refused)
        office.do(("pass", 16))
        office.do(parties[1].reveal())
        self.refuse(office, parties[2].reveal(), Refused)
        self.refuse(office, ("draw",), Refused)
        self.refuse(office, parties[1].help(1), Refused)
        self.refuse(office, parties[2].help(1), Refused)
        self.refuse(office, parties[0].help(4), Refused)
        self.refuse(office, changed(parties[0].help(1), 3, (parties[0].help(1)[3] + 1) % 11), Refused)
        office.do(parties[0].help(1))
        self.refuse(office, parties[0].help(1), Refused)
        self.refuse(office, ("draw",), Refused)
        office.do(("pass", 25))
        self.refuse(office, ("draw",), Refused)
        late = office_of(SHARES, office.log())
        office.do(parties[0].help(3))
        self.refuse(office, parties[0].help(2), Refused)
        office.do(("draw",))
        self.assertEqual(office.publications()[0][0][6:8], ((4, 14, 16, 25), 3))
        # Patience later it can be drawn without the withheld value.
        late.do(("pass", 26))
        late.do(("draw",))
        self.assertEqual(late.publications()[0][0][6:8], ((4, 14, 16, 26), 2))

    def test_ready_at_once(self):
        office = Office(SHARES)
        parties = parties_of(SHARES, 0, random.Random(1), (1, 2, 9))
        office.do(parties[1].promise())
        office.do(parties[2].promise())
        office.do(("seal",))
        self.refuse(office, ("draw",), Refused)
        office.do(parties[2].paper())
        self.refuse(office, parties[2].reveal(), Refused)
        self.refuse(office, parties[0].paper(), Refused)
        # A paper that does not stand is shown all the same, and then its party is out.
        office.do(parties[1].paper((1,), ()))
        office.do(parties[2].reveal())
        office.do(("draw",))
        self.assertEqual(office.publications()[0][0][7], 9)

    def test_draws_near_the_end_of_time(self):
        for time, right in ((10 ** 9 - 130, True), (10 ** 9 - 129, False)):
            office = Office(TURNS)
            office.do(("pass", time))
            office.do(("seal",))
            if right:
                office.do(("draw",))
            else:
                self.refuse(office, ("draw",), Refused)

    def test_events(self):
        office = self.drawn(deeds=[sale(7), sale_of_bearer(9)])
        claim = ("event", 0, 7, "claim", "bob", None)
        for at, number in ((1, 7), (10 ** 6, 7), (0, 8), (0, 999999), (0, 0)):
            self.refuse(office, ("event", at, number) + claim[3:], NotThere)
            with self.assertRaises(NotThere):
                office.state(at, number)
            with self.assertRaises(NotThere):
                office.prize(at, number)
        for ask in (office.state, office.prize):
            with self.assertRaises(NotThere):
                ask(-1, 7)
        # What is idle is an event, too.
        for _ in range(60):
            office.do(claim)
        self.refuse(office, claim, TooMuch)
        self.refuse(office, changed(claim, 4, "ann"), TooMuch)
        office.do(("event", 0, 9, "claim", "bob", None))
        self.assertEqual(len(office.log()), 3 + 2 + 1 + 3 + 1 + 61)
        self.assertEqual(office.state(0, 7), ("open", "ann"))

    def test_a_ticket_of_the_round_on_sale(self):
        office = self.drawn(deeds=[sale(7)])
        office.do(sale(8))
        self.refuse(office, ("event", 0, 8, "claim", "ann", None), NotThere)
        self.refuse(office, ("event", 1, 8, "claim", "ann", None), NotThere)

    def test_any_deeds_that_are_refused_change_nothing(self):
        chance = random.Random(203)
        for charter in (TURNS, SHARES):
            refused = 0
            office = any_office(charter, chance, 1)
            for _ in range(120):
                at = office.current()[0]
                party = parties_of(charter, at, chance)[chance.randrange(3)]
                deed = chance.choice([party.promise(), party.reveal(), party.withhold(), ("seal",), ("draw",), sale(chance.randint(0, 99)), ("pass", office.time() + chance.randint(-2, 2)),
                                      ("event", chance.randint(0, 2), chance.randint(0, 59), "claim", "ann", None)])
                before = told(office)
                try:
                    office.do(deed)
                    self.assertEqual(office.log(), before[2] + [(before[1], deed)])
                except LotError:
                    refused += 1
                    self.assertEqual(told(office), before)
            self.assertGreater(refused, 20)


class Bounds(Case):
    CHARTER = (1, (("choice", 100, 1), ("choice", 61, 1)), (((1, 1),),), (1, (0, 1), 0, (("fixed", 1, (0, 1), 0, "keep"),)), ((0, 10 ** 6, "sal"),), PARTIES[:1],
               ("turns", 0, None, 0), (1, 1, 1), 0)

    def system(self, many, other):
        return (tuple(range(1, many + 1)), tuple(range(1, other + 1)))

    def test_4096_tickets(self):
        self.assertIs(is_charter(self.CHARTER), True)
        office = Office(self.CHARTER)
        for number in range(4096):
            office.do(sale(number, self.system(1, 1)))
        with self.assertRaises(TooMuch):
            office.do(sale(4096, self.system(1, 1)))
        # One that was sold is not sold again, though there is no place for any.
        with self.assertRaises((TooMuch, Refused)):
            office.do(sale(7, self.system(1, 1)))
        self.assertEqual(len(office.log()), 4096)

    def test_picks(self):
        office = Office(self.CHARTER)
        self.refuse(office, sale(0, self.system(82, 61)), TooMuch)
        self.refuse(office, sale(0, self.system(100, 61)), TooMuch)
        for number in range(199):
            office.do(sale(number, self.system(100, 50)))
        self.refuse(office, sale(199, self.system(100, 51)), TooMuch)
        office.do(sale(199, self.system(99, 50)))
        office.do(sale(200, self.system(49, 1)))
        self.refuse(office, sale(201, self.system(1, 2)), TooMuch)
        office.do(sale(201, self.system(1, 1)))
        self.refuse(office, sale(202, self.system(1, 1)), TooMuch)
        office.do(("seal",))
        office.do(("draw",))
        (bulletin, book), = office.publications()
        self.assertEqual(bulletin[8], (10 ** 6, (202,)))
        self.assertEqual(len(book), 202)
        self.assertIsNone(fault(self.CHARTER, office.publications()))
        self.assertEqual(office.accounts(), (10 ** 6, 0, 0, 202, 0, 10 ** 6 - 202))


class Rounds(Case):
    def test_rounds_in_order(self):
        office = Office(TURNS)
        for at in range(4):
            self.assertEqual(office.current(), (at, "sale"))
            self.drawn(TURNS, [sale(7)], (at, 2 * at, 1), at, office)
            self.assertEqual(office.current(), (at + 1, "sale"))
            self.assertEqual([row[0][0] for row in office.publications()], list(range(at + 1)))
            self.assertEqual(office.publications()[at][0][7], (3 * at + 1) % 10)
        self.assertIsNone(fault(TURNS, office.publications()))

    def test_a_bulletin(self):
        deeds = [("pass", 3), sale(70), sale(7), sale_of_bearer(9), sale(52, ((1, 2),), "tom")]
        office = Office(TURNS)
        parties = parties_of(TURNS, 0, random.Random(4), (9, 9, 5))
        for deed in [party.promise() for party in parties] + deeds + [("seal",), ("pass", 5), parties[0].reveal(), ("pass", 6), parties[1].reveal(), parties[2].reveal(), ("pass", 9), ("draw",)]:
            office.do(deed)
        (bulletin, book), = office.publications()
        self.assertEqual(book, tuple(entry_of(TURNS, deed) for deed in (deeds[2], deeds[3], deeds[4], deeds[1])))
        drawn = pick_by(TURNS, 3)
        self.assertEqual(drawn, ((1, 5),))
        # Of three systems with 1, 2 and 5, one pick is in the best class, and two are in the next one.
        self.assertEqual(bulletin, (
            0, tuple(party.seal for party in parties), 4, root(4, book), (None, None, None), tuple(party.reveal() for party in parties), (3, 5, 6, 9), 3,
            (10, (3, 7)), (100, 20)))
        self.assertEqual([office.prize(0, number) for number in (7, 9, 52, 70)], [140, 140, 20, 140])
        self.assertEqual(office.accounts(), (100, 10, 0, 440, 0, 10 ** 6 - 350))

    def test_what_is_carried_on(self):
        office = self.drawn(TURNS, [sale(7, ((1, 2),))], (9, 0, 0))
        self.assertEqual(office.publications()[0][0][8:], ((1, (0, 0)), (0, 0)))
        self.assertEqual(office.accounts(), (10, 1, 0, 0, 5, 10 ** 6 + 4))
        self.drawn(TURNS, [sale(7, ((1, 2),))], (9, 0, 0), 1, office)
        self.assertEqual(office.accounts(), (20, 2, 0, 0, 10, 10 ** 6 + 8))
        self.drawn(TURNS, [sale(7, ((1, 2),))], (0, 0, 0), 2, office)
        # The pot of 15 is raised to 300.
        self.assertEqual(office.accounts(), (30, 3, 0, 300, 0, 10 ** 6 + 12 - 285))
        self.assertEqual(office.prize(2, 7), 300)
        self.assertEqual(office.prize(0, 7), 0)
        self.assertEqual(office.state(0, 7), ("lapsed",))

    def test_a_round_without_tickets(self):
        office = self.drawn()
        self.assertEqual(office.publications()[0][1], ())
        self.assertEqual(office.publications()[0][0][2:4], (0, root(4, ())))
        self.assertEqual(office.accounts(), (0, 0, 0, 0, 0, 10 ** 6))

    def test_draws_from_seeds(self):
        office = self.drawn(TURNS_OF_OCTETS, [sale(7, ((1, 2, 3, 4, 5),))], (65535, 2, 0))
        self.assertEqual(office.publications()[0][0][7], 1)
        self.assertEqual(office.publications()[0][0][8], (10, (1, 6)))

    def test_copied_promises(self):
        # Who promises what another one, or another round, has promised cannot open it.
        office = Office(TURNS)
        parties = parties_of(TURNS, 0, random.Random(4), (9, 9, 5))
        office.do(parties[0].promise())
        office.do(changed(parties[0].promise(), 1, "quin"))
        office.do(("seal",))
        office.do(parties[0].reveal())
        self.refuse(office, changed(parties[0].reveal(), 1, "quin"), Refused)
        office.do(("withhold", "quin"))
        office.do(("draw",))
        office.do(parties[0].promise())
        office.do(("seal",))
        self.refuse(office, parties[0].reveal(), Refused)
        self.assertNotEqual(sealed(TURNS, 1, 0, parties[0].salt, [9]), parties[0].seal)


class Claims(Case):
    def test_a_ticket_is_paid(self):
        office = self.drawn(deeds=[("pass", 50), sale(7)], values=(0, 0, 0))
        self.assertEqual(office.prize(0, 7), 300 + 2 * 20)
        self.assertEqual(office.state(0, 7), ("open", "ann"))
        self.assertEqual(office.accounts()[2:4], (0, 340))
        office.do(("event", 0, 7, "pass", "ann", "bob"))
        office.do(("pass", 60))
        office.do(("event", 0, 7, "claim", "ann", None))
        self.assertEqual(office.state(0, 7), ("open", "bob"))
        office.do(("event", 0, 7, "claim", "bob", None))
        self.assertEqual(office.state(0, 7), ("paid", (("bob", 340),)))
        self.assertEqual(office.accounts(), (30, 3, 340, 0, 0, 10 ** 6 - 313))
        office.do(("event", 0, 7, "claim", "bob", None))
        office.do(("pass", 10 ** 9))
        self.assertEqual(office.accounts(), (30, 3, 340, 0, 0, 10 ** 6 - 313))

    def test_a_ticket_lapses_by_time_alone(self):
        # Drawn at 50, closed 100 later.
        office = self.drawn(deeds=[("pass", 50), sale(7), sale_of_bearer(9)], values=(0, 0, 0))
        # The pot of 30 is raised to 300 for two winners.
        prize = 150 + 2 * 20
        before = (60, 6, 0, 2 * prize, 0, 10 ** 6 - 326)
        self.assertEqual(office.accounts(), before)
        office.do(("pass", 149))
        self.assertEqual(office.accounts(), before)
        self.assertEqual(office.state(0, 9), ("open", None))
        office.do(("pass", 150))
        self.assertEqual(office.accounts(), (60, 6, 0, 0, 0, 10 ** 6 - 326 + 2 * prize))
        self.assertEqual(office.state(0, 9), ("lapsed",))
        office.do(("event", 0, 7, "claim", "ann", None))
        self.assertEqual(office.state(0, 7), ("lapsed",))

    def test_a_contest_of_a_bearer(self):
        office = self.drawn(deeds=[sale_of_bearer(9, ((1, 2),))], values=(0, 0, 0))
        office.do(("pass", 20))
        office.do(("event", 0, 9, "lost", "bob", STUB_SALT[:32]))
        self.assertEqual(office.state(0, 9), ("open", None))
        office.do(("event", 0, 9, "lost", "bob", WRONG_SALT))
        self.assertEqual(office.state(0, 9), ("reported", "bob", 20))
        office.do(("event", 0, 9, "show", "cid", SLIP_SALT))
        self.assertEqual(office.state(0, 9), ("contested", "bob", "cid"))
        self.assertEqual(office.accounts()[2:4], (0, 300))
        office.do(("pass", 129))
        self.assertEqual(office.state(0, 9), ("contested", "bob", "cid"))
        office.do(("pass", 130))
        self.assertEqual(office.state(0, 9), ("paid", (("bob", 150), ("cid", 150))))
        self.assertEqual(office.accounts()[2:4], (300, 0))

    def test_the_accounts_come_out_at_each_time(self):
        chance = random.Random(194)
        for charter in WAYS:
            for _ in range(4):
                salts = {}
                office = any_office(charter, chance, 3, salts, 8)
                self.check(office)
                rows = settled(charter, office.publications())
                events = {}
                for _ in range(60):
                    at = chance.randrange(3)
                    if rows[at][1] and chance.random() < 0.7:
                        number = chance.choice(rows[at][1])[0]
                        slip, stub = salts[at].get(number, (SALT, SALT))
                        word = chance.choice(("claim", "pass", "show", "lost", "lost", "take", "yield", "rule"))
                        more = {"pass": chance.choice(("ann", "bob")), "show": slip, "lost": stub}.get(word)
                        deed = ("event", at, number, word, chance.choice(("ann", "bob", "cid")), more)
                        if len(events.setdefault((at, number), [])) < 60:
                            office.do(deed)
                            events[(at, number)].append((office.time(),) + deed[3:])
                    else:
                        office.do(("pass", office.time() + chance.randint(1, 9)))
                    self.check(office)
                for later in (100, 130, 10 ** 6):
                    office.do(("pass", office.time() + later))
                    self.check(office)
                    self.compare(office, rows, events)
                self.assertEqual(office.accounts()[3], 0)
                self.assertEqual(told(office_of(charter, office.log())), told(office))

    def check(self, office):
        stakes, due, paid, pending, carried, reserve = office.accounts()
        self.assertEqual(stakes + office.charter[8], due + paid + pending + carried + reserve)

    def compare(self, office, rows, events):
        """Compare the office with parts 7 and 9."""
        charter, now = office.charter, office.time()
        paid = pending = lapsed = 0
        for at, (bulletin, book) in enumerate(office.publications()):
            opens = bulletin[6][3]
            terms = (charter[0], opens, opens + charter[7][0], charter[7][1])
            tickets, prizes, courses = [], [], []
            for (number, _, prize), entry in zip(rows[at][1], book):
                words = bytes(entry[8:]).decode().split(" ")
                holder = words[4] if words[3] == "named" else (words[4], words[5])
                tickets.append((number, words[3], holder))
                prizes.append(prize)
                courses.append(events.get((at, number), []))
                self.assertEqual(office.prize(at, number), prize)
                self.assertEqual(office.state(at, number), state(terms, tickets[-1], prize, courses[-1], now))
            found = paid_of(terms, tickets, prizes, courses, now)
            paid += sum(row[2] for row in found[0])
            lapsed += found[1]
            pending += found[2]
        due = sum(row[2][1] for row in rows)
        stakes = TABLE[0] * sum(bulletin[8][0] for bulletin, _ in office.publications())
        reserve = charter[8] + sum(row[2][3] for row in rows) + lapsed
        self.assertEqual(office.accounts(), (stakes, due, paid, pending, sum(rows[-1][2][2]), reserve))


class Logs(Case):
    def test_the_log_tells_the_same_office(self):
        chance = random.Random(202)
        for charter in WAYS:
            office = any_office(charter, chance, 3)
            office.do(("pass", office.time() + 1))
            other = office_of(charter, office.log())
            self.assertEqual(told(other), told(office))
            # Both go on alike, and apart.
            play_round(other, random.Random(5))
            self.assertNotEqual(other.log(), office.log())
            play_round(office, random.Random(5))
            self.assertEqual(told(other), told(office))
            third = office_of(charter, log_of(charter, log_text(charter, office.log())))
            self.assertEqual(told(third), told(office))
            for many in range(0, len(office.log()), 9):
                self.assertEqual(office_of(charter, office.log()[:many]).log(), office.log()[:many])

    def test_a_wrong_time(self):
        log = [(0, ("pass", 5)), (5, sale(7)), (5, ("seal",)), (5, ("pass", 9)), (9, ("draw",))]
        self.assertEqual(office_of(TURNS, log).log(), log)
        for at in range(5):
            for time in (log[at][0] + 1, log[at][0] - 1, 10 ** 9):
                with self.assertRaises(Malformed):
                    office_of(TURNS, changed(tuple(log), at, (time, log[at][1])))
        self.assertEqual(len(log), 5)

    def test_what_do_raises(self):
        for deed, error in ((("pass", 0), OutOfRange), (("seal",), Refused), (("promise", "nobody", SEAL), NotThere), (None, Malformed), (("win", 5), Malformed)):
            with self.assertRaises(error):
                office_of(TURNS, [(0, ("seal",)), (0, deed)])

    def test_nothing_is_shared(self):
        office = any_office(SHARES, random.Random(1), 2)
        before = told(office)
        office.log().clear()
        office.publications().clear()
        log = office.log()
        log.append((0, ("seal",)))
        other = office_of(SHARES, before[2])
        before[2].append(None)
        self.assertEqual(told(office)[3:], before[3:])
        self.assertEqual(len(other.log()), len(office.log()))


if __name__ == "__main__":
    unittest.main()
