"""Charters, parties and rounds for the tests."""

import random

from lotshown.audit import sale_of
from lotshown.checked import row_of, share_of
from lotshown.claims import slip_value, stub_value
from lotshown.drawing import binding
from lotshown.errors import LotError
from lotshown.games import is_system
from lotshown.octets import of_number
from lotshown.office import Office
from lotshown.promises import promise
from tests.groups import GREAT

GAME = (("choice", 5, 2),)
CLASSES = (((2,),), ((1,),))
TABLE = (10, (1, 10), 10 ** 6, (("shared", 300, (1, 2), 0, "roll"), ("fixed", 20, (0, 1), 0, "keep")))
BLOCKS = ((0, 25, "sal"), (25, 50, "sal"), (50, 60, "tom"), (70, 1000, "sal"))
PARTIES = ("pat", "quin", "abe")
TERMS = (100, 30, 10)
SMALL_GROUP = (23, 11, 2, 3)
TURNS = (4, GAME, CLASSES, TABLE, BLOCKS, PARTIES, ("turns", 0, None, 0), TERMS, 10 ** 6)
SHARES = TURNS[:6] + (("shares", 0, SMALL_GROUP, 2),) + TURNS[7:]
# With octets the pick is drawn from a seed.
TURNS_OF_OCTETS = TURNS[:6] + (("turns", 2, None, 0),) + TURNS[7:]
SHARES_OF_OCTETS = TURNS[:6] + (("shares", 7, GREAT, 2),) + TURNS[7:]
WAYS = (TURNS, SHARES, TURNS_OF_OCTETS, SHARES_OF_OCTETS)
BROAD = (2, (("choice", 100, 3), ("figures", 36, 2), ("tail", 10, 3)), (((3, 2, 3),), ((0, 0, 1), (1, 0, 0))), TABLE, BLOCKS, PARTIES[:1],
         ("turns", 7, None, 0), TERMS, 0)


def changed(row, at, value):
    return row[:at] + (value,) + row[at + 1:]


def sealed(charter, round_number, number, salt, values):
    """Return the seal of a party that is opened by the salt with the values."""
    octets = binding(round_number, number)
    for value in values:
        octets += of_number(value, 8)
    return promise(charter[0], salt, octets)


class Party:
    """What a party has made up for a round."""

    def __init__(self, charter, round_number, number, chance, value=None):
        self.charter, self.name = charter, charter[5][number]
        self.salt = tuple(chance.randint(0, 255) for _ in range(chance.choice((16, 20, 32))))
        word, octets, group, threshold = charter[6]
        if word == "turns":
            size = 10 if octets == 0 else 256 ** octets
            self.value = chance.randrange(size) if value is None else value
            self.seal = sealed(charter, round_number, number, self.salt, [self.value])
        else:
            q = group[1]
            secrets = [chance.randrange(q) for _ in range(threshold)]
            if value is not None:
                secrets[0] = value
            self.value = secrets[0]
            self.dealing = (tuple(secrets), tuple(chance.randrange(q) for _ in range(threshold)))
            self.row = row_of(group, self.dealing)
            self.seal = sealed(charter, round_number, number, self.salt, self.row)

    def promise(self):
        return ("promise", self.name, self.seal)

    def paper(self, complaints=(), shown=None):
        if shown is None:
            shown = tuple(share_of(self.charter[6][2], self.dealing, index) for index in complaints)
        return ("paper", self.name, (self.row, tuple(complaints), shown), self.salt)

    def reveal(self):
        opener = self.salt if self.charter[6][0] == "turns" else self.dealing[1][0]
        return ("reveal", self.name, self.value, opener)

    def withhold(self):
        return ("withhold", self.name)

    def help(self, index):
        return ("help", self.name) + share_of(self.charter[6][2], self.dealing, index)


def parties_of(charter, round_number, chance, values=None):
    return [Party(charter, round_number, at, chance, values[at] if values else None) for at in range(len(charter[5]))]


def any_salt(chance):
    return tuple(chance.randint(0, 255) for _ in range(chance.choice((16, 32))))


def any_system(chance, game=GAME):
    parts = []
    for kind, n, k in game:
        if kind == "choice":
            parts.append(tuple(sorted(chance.sample(range(1, n + 1), chance.randint(k, min(n, k + 2))))))
        else:
            parts.append(tuple(tuple(sorted(chance.sample(range(n), chance.randint(1, 2)))) for _ in range(k)))
    assert is_system(game, tuple(parts))
    return tuple(parts)


def any_sale(charter, chance, salts):
    """Return a sale, and keep the salts of a bearer's ticket."""
    number = chance.choice((chance.randint(0, 59), chance.randint(70, 90)))
    seller = "tom" if 50 <= number < 60 else "sal"
    if chance.random() < 0.5:
        return ("sell", seller, number, any_system(chance, charter[1]), "named", chance.choice(("ann", "bob")))
    slip, stub = any_salt(chance), any_salt(chance)
    salts[number] = (slip, stub)
    holder = (promise(charter[0], slip, slip_value(number)), promise(charter[0], stub, stub_value(number)))
    return ("sell", seller, number, any_system(chance, charter[1]), "bearer", holder)


def tried(office, deed):
    """Do a deed, and tell whether it was done."""
    try:
        office.do(deed)
    except LotError:
        return False
    return True


def play_round(office, chance, salts=None, tickets=4, honest=False):
    """Go through a round up to its draw; some parties do not promise, show no paper, or withhold."""
    charter, salts = office.charter, {} if salts is None else salts
    at = office.current()[0]
    parties = parties_of(charter, at, chance)
    for party in parties:
        if honest or chance.random() < 0.85:
            office.do(party.promise())
    for _ in range(tickets):
        tried(office, any_sale(charter, chance, salts))
        step(office, chance)
    office.do(("seal",))
    step(office, chance)
    if charter[6][0] == "shares":
        for party in parties:
            complaints = () if honest or chance.random() < 0.7 else (chance.randint(1, 3),)
            shown = () if complaints and chance.random() < 0.3 else None
            if honest or chance.random() < 0.85:
                tried(office, party.paper(complaints, shown))
            step(office, chance)
        while not any(tried(office, deed) for party in parties for deed in (party.reveal(), party.withhold())):
            if tried(office, ("draw",)):
                return
            office.do(("pass", office.time() + 3))
    for party in parties:
        step(office, chance)
        deeds = [party.reveal(), party.withhold()]
        if not honest and chance.random() < 0.3:
            deeds.reverse()
        any(tried(office, deed) for deed in deeds)
    if charter[6][0] == "shares":
        for party in parties:
            for index in chance.sample((1, 2, 3), chance.randint(0, 3)):
                tried(office, party.help(index))
                step(office, chance)
    while not tried(office, ("draw",)):
        office.do(("pass", office.time() + 3))


def step(office, chance):
    if chance.random() < 0.4:
        office.do(("pass", office.time() + chance.randint(1, 3)))


def any_office(charter, chance, rounds, salts=None, tickets=4):
    office = Office(charter)
    for at in range(rounds):
        play_round(office, chance, None if salts is None else salts.setdefault(at, {}), tickets)
    return office


def led(office, bulletin, book):
    """Lead an office through a round, by deeds that are taken from its papers, up to the draw."""
    charter = office.charter
    _, promises, _, _, papers, deeds, times = bulletin[:7]
    pass_to(office, times[0])
    for party, seal in zip(charter[5], promises):
        if seal is not None:
            office.do(("promise", party, seal))
    for entry in book:
        office.do(sale_of(charter, entry))
    office.do(("seal",))
    for party, shown in zip(charter[5], papers):
        if shown is not None:
            office.do(("paper", party) + shown)
    turns = [deed for deed in deeds if deed[0] != "help"]
    for deed in deeds:
        if deed[0] != "help":
            pass_to(office, times[2] if len(turns) > 1 and deed is turns[-1] else times[1])
        office.do(deed)
    pass_to(office, times[3])
    office.do(("draw",))


def replayed(charter, publications):
    """Tell whether an office can be led to just these publications."""
    try:
        office = Office(charter)
        for bulletin, book in publications:
            led(office, bulletin, book)
        return repr(office.publications()) == repr(publications)
    except (LotError, TypeError, ValueError, KeyError, IndexError, AttributeError):
        return False


def drawn_at(charter, promises, papers, deeds, times):
    """Tell whether an office can draw its first round with just these times behind these deeds."""
    office = Office(charter)
    try:
        led(office, (0, promises, 0, None, papers, deeds, times), ())
    except LotError:
        return False
    return office.publications()[0][0][6] == times


def pass_to(office, time):
    if time != office.time():
        office.do(("pass", time))
