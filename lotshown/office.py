"""The office: it sells, seals, draws, settles and pays (points 187 to 196, 202 and 203)."""

from lotshown.charter import is_charter, is_deed, pick_by
from lotshown.claims import aged, first_state, told
from lotshown.drawing import is_ready, may_do, may_draw, may_show, result
from lotshown.errors import Malformed, NotThere, OutOfRange, Refused, TooMuch
from lotshown.groves import root
from lotshown.payouts import split
from lotshown.prizes import start_state
from lotshown.sales import entry_octets, held_by, in_block, is_small, is_within, settled_round

_MOST_EVENTS = 60


class Round:
    """The round that is on sale or drawing."""

    def __init__(self, number, parties):
        self.number = number
        self.promises = [None] * parties
        self.papers = [None] * parties
        self.sales = {}
        self.picks = 0
        self.deeds = []
        self.end = None
        self.first = None
        self.last = None

    def word(self):
        """Return whether the round is on sale or drawing."""
        return "sale" if self.end is None else "drawing"

    def times(self, now):
        """Return the times of the end of the sale, the first and the last turn, and a draw now."""
        if self.first is None:
            return (self.end, self.end, self.end, now)
        return (self.end, self.first, self.last, now)

    def promise(self, number, mark):
        """Bind a party by a seal."""
        if self.end is not None or self.promises[number] is not None:
            raise Refused("a party promises once, while the round is on sale")
        self.promises[number] = mark

    def sell(self, charter, sale):
        """Sell a ticket."""
        if self.end is not None or not in_block(charter, sale) or sale[2] in self.sales:
            raise Refused("this may not be sold now, or by this seller, or was sold")
        count = held_by(charter, sale)
        if not is_small(count) or not is_within(len(self.sales) + 1, self.picks + count):
            raise TooMuch("there are too many tickets or picks")
        self.picks += count
        self.sales[sale[2]] = sale

    def seal(self, now):
        """End the sale."""
        if self.end is not None:
            raise Refused("the sale has ended")
        self.end = now

    def show(self, charter, number, deed):
        """Take the paper of a party."""
        _, party, paper, salt = deed
        if self.end is None or self.first is not None or self.papers[number] is not None:
            raise Refused("a paper is shown once, behind the sale and ahead of the first turn")
        if not may_show(charter, self.number, self.promises, party, paper, salt):
            raise Refused("the salt does not open the seal with the row of the paper")
        self.papers[number] = (paper, salt)

    def do(self, charter, deed, now):
        """Do a reveal, a withhold or a help."""
        if self.end is None or not is_ready(charter, self.promises, self.papers, self.end, now):
            raise Refused("the parties are not ready")
        if not may_do(charter, self.number, self.promises, self.papers, self.deeds, deed):
            raise Refused("this cannot be done now")
        self.deeds.append(deed)
        if deed[0] != "help":
            self.first = now if self.first is None else self.first
            self.last = now


class Claimed:
    """A ticket of a drawn round, and what has come of it."""

    def __init__(self, terms, sale, prize):
        self.terms = terms
        self.ticket = (sale[2],) + sale[4:]
        self.money = prize
        self.events = 0
        self.standing = first_state(self.ticket, prize)

    def tell(self, event):
        """Take an event."""
        if self.events >= _MOST_EVENTS:
            raise TooMuch("a ticket has at most 60 events")
        self.events += 1
        _, self.standing = told(self.terms, self.ticket, self.money, self.standing, event)

    def at(self, now):
        """Return the state of the ticket at a time behind all its events."""
        return aged(self.terms, self.money, self.standing, now)


class Office:
    """An office that keeps a lottery by its charter."""

    def __init__(self, charter):
        if not is_charter(charter):
            raise Malformed("this is no charter")
        self.charter = charter
        self._now = 0
        self._done = []
        self._round = Round(0, len(charter[5]))
        self._tickets = []
        self._published = []
        self._results = []

    def do(self, deed):
        """Do a deed."""
        if not is_deed(self.charter, deed):
            raise Malformed("this is no deed")
        now = self._now
        word = deed[0]
        if word == "pass":
            self._pass(deed[1])
        elif word == "event":
            self._tell(deed)
        elif word == "draw":
            self._draw()
        elif word == "sell":
            self._round.sell(self.charter, deed)
        elif word == "seal":
            self._round.seal(now)
        else:
            self._act(self._number_of(deed[1]), deed)
        self._done.append((now, deed))

    def _pass(self, time):
        if time <= self._now:
            raise OutOfRange("a later time must come")
        self._now = time

    def _number_of(self, party):
        if party not in self.charter[5]:
            raise NotThere("there is no such party")
        return self.charter[5].index(party)

    def _act(self, number, deed):
        """Do the deed of a party."""
        if deed[0] == "promise":
            self._round.promise(number, deed[2])
        elif deed[0] == "paper":
            self._round.show(self.charter, number, deed)
        else:
            self._round.do(self.charter, deed, self._now)

    def _tell(self, deed):
        _, at, number, word, name, more = deed
        self._ticket(at, number).tell((self._now, word, name, more))

    def _ticket(self, at, number):
        """Return a ticket of a drawn round."""
        if not 0 <= at < len(self._tickets):
            raise NotThere("there is no such drawn round")
        if number not in self._tickets[at]:
            raise NotThere("there is no such ticket")
        return self._tickets[at][number]

    def _draw(self):
        drawing = self._round
        times = drawing.times(self._now)
        if drawing.end is None or not may_draw(self.charter, drawing.promises, drawing.papers, drawing.deeds, times):
            raise Refused("the round cannot be drawn now")
        number = result(self.charter, drawing.promises, drawing.papers, drawing.deeds)
        sales = [drawing.sales[at] for at in sorted(drawing.sales)]
        outcome, told_result, tickets = settled_round(self.charter, self._state(), sales, pick_by(self.charter, number))
        book = tuple([entry_octets(self.charter, sale) for sale in sales])
        bulletin = (
            drawing.number, tuple(drawing.promises), len(book), root(self.charter[0], book), tuple(drawing.papers),
            tuple(drawing.deeds), times, number, outcome, told_result[0],
        )
        span, wait, _ = self.charter[7]
        terms = (self.charter[0], self._now, self._now + span, wait)
        self._tickets.append({row[0]: Claimed(terms, sale, row[2]) for sale, row in zip(sales, tickets)})
        self._published.append((bulletin, book))
        self._results.append(told_result)
        self._round = Round(drawing.number + 1, len(self.charter[5]))

    def _state(self):
        """Return what is carried on behind the drawn rounds."""
        return self._results[-1][2] if len(self._results) > 0 else start_state(self.charter[3])

    def time(self):
        """Return the time."""
        return self._now

    def log(self):
        """Return the log."""
        return list(self._done)

    def current(self):
        """Return the number of the round that is not drawn, and whether it is on sale or drawing."""
        return (self._round.number, self._round.word())

    def publications(self):
        """Return the list of the bulletins and books of the drawn rounds."""
        return list(self._published)

    def accounts(self):
        """Return stakes, what is due, paid, pending and carried, and the reserve."""
        paid = pending = lapsed = 0
        for tickets in self._tickets:
            for number in tickets:
                pairs, gone, left = split(tickets[number].at(self._now), tickets[number].money)
                paid += sum([money for _, money in pairs])
                lapsed += gone
                pending += left
        stakes = self.charter[3][0] * sum([bulletin[8][0] for bulletin, _ in self._published])
        due = sum([row[1] for row in self._results])
        reserve = self.charter[8] + sum([row[3] for row in self._results]) + lapsed
        return (stakes, due, paid, pending, sum(self._state()), reserve)

    def state(self, at_round, number):
        """Return the state of a ticket of a drawn round."""
        return self._ticket(at_round, number).at(self._now)

    def prize(self, at_round, number):
        """Return the prize of a ticket of a drawn round."""
        return self._ticket(at_round, number).money


def office_of(charter, log):
    """Return an office that has done the deeds of a log."""
    office = Office(charter)
    for time, deed in log:
        if time != office.time():
            raise Malformed("the time is not that of the office")
        office.do(deed)
    return office
