"""Schemes by which parties draw together, and their machines for coalitions (points 85 to 87)."""

from lotshown.errors import TooMuch
from lotshown.names import ascends, is_number

_MOST_SIZE = 12
_MOST_PARTIES = 6
_MOST_ROUNDS = 3
_MOST_STAKE = 10 ** 6
_MOST_STATES = 3000
_RESULTS = 64


def is_scheme(value):
    """Tell whether the value, of any kind, is a scheme."""
    if not isinstance(value, tuple) or len(value) != 4:
        return False
    way, size, order, rest = value
    return is_number(size, 2, _MOST_SIZE) and _is_order(order) and _is_rest(way, len(order), rest)


def _is_order(value):
    if not isinstance(value, tuple) or not 1 <= len(value) <= _MOST_PARTIES:
        return False
    if not all(is_number(party, 0, len(value) - 1) for party in value):
        return False
    return all(party in value for party in range(len(value)))


def _is_rest(way, n, value):
    if not isinstance(value, tuple):
        return False
    if way == "shares":
        return len(value) == 1 and is_number(value[0], 1, n)
    if way == "again":
        return len(value) == 2 and is_number(value[0], 1, _MOST_ROUNDS) and is_number(value[1], 0, _MOST_STAKE)
    return way in ("turns", "beacon") and len(value) == 0


def is_coalition(scheme, value):
    """Tell whether the value, of any kind, is a coalition of the parties of the scheme."""
    if not isinstance(value, tuple):
        return False
    return all(is_number(party, 0, len(scheme[2]) - 1) for party in value) and ascends(value)


def honest_many(scheme, coalition):
    """Return the number of the honest parties."""
    return len(scheme[2]) - len(coalition)


def last_draw(scheme):
    """Return the number of the last draw that may come."""
    return scheme[3][0] if scheme[0] == "again" else 0


def opens_late(scheme, coalition):
    """Tell whether the coalition decides at the end which of its withheld values are opened."""
    return scheme[0] == "shares" and honest_many(scheme, coalition) < scheme[3][0]


def even_chances(scheme):
    """Return the told chances that are the same for each result."""
    size = scheme[1]
    return tuple([(1, size) if result < size else (0, 1) for result in range(_RESULTS)])


def machine_of(scheme, coalition):
    """Return the machine of the scheme for the coalition."""
    rows = _rows(scheme, coalition)
    numbers = {row[0]: number for number, row in enumerate(rows)}
    nodes = []
    for state, word, behind, prices in rows:
        nexts = tuple([numbers[after] for after in behind])
        if word == "end":
            nodes.append((word, state[4]))
        else:
            nodes.append((word, nexts, prices) if word == "choice" else (word, nexts))
    return tuple(nodes)


def _rows(scheme, coalition):
    """List the states by their numbers, each with its word, the states behind it, and its prices.

    A state is a tuple (draw, place, held, withheld, total): the pairs (member, value) that are
    still to be revealed, the pairs that may still be opened, and the sum so far.
    """
    start = (0, 0, (), (), 0)
    met = {start: True}
    waiting = {(0, 0): [start]}
    rows = []
    for draw in range(last_draw(scheme) + 1):
        for place in range(_places(scheme, coalition)):
            # What leads to these states stands in earlier places and draws, so all of them were met.
            row = waiting.get((draw, place), [])
            for state in row:
                word, behind, prices = _step(scheme, coalition, state)
                rows.append((state, word, behind, prices))
                _meet(met, waiting, behind)
    return rows


def _meet(met, waiting, behind):
    """Put those states that were not met before to the others of their draw and place."""
    for state in behind:
        if state not in met:
            met[state] = True
            waiting.setdefault(state[:2], []).append(state)
    if len(met) > _MOST_STATES:
        raise TooMuch("the machine has more than 3000 states")


def _places(scheme, coalition):
    # Behind the parties come at most a choice for each member, or the beacon, and then an end.
    return len(scheme[2]) + 2 * len(coalition) + 2


def _step(scheme, coalition, state):
    """Return the word of a state, the states behind it in order, and the prices."""
    draw, place, held, withheld, total = state
    way, size, order, _ = scheme
    after = place + 1
    turn = place - len(coalition)
    if turn < 0:
        member = coalition[place]
        return ("chance", [(draw, after, held + ((member, value),), (), 0) for value in range(size)], ())
    if turn < len(order) and order[turn] in coalition:
        return _turn(scheme, coalition, state, order[turn])
    if turn < len(order) or way == "beacon" and turn == len(order):
        return ("chance", [(draw, after, held, withheld, (total + value) % size) for value in range(size)], ())
    if len(withheld) > 0:
        opened = (total + withheld[0][1]) % size
        return ("choice", [(draw, after, (), withheld[1:], amount) for amount in (opened, total)], (0, 0))
    return ("end", [], ())


def _turn(scheme, coalition, state, member):
    """Return the same for a state in which a member is to reveal."""
    draw, place, held, withheld, total = state
    value = [number for party, number in held if party == member][0]
    left = tuple([pair for pair in held if pair[0] != member])
    shown = (draw, place + 1, left, withheld, (total + value) % scheme[1])
    silent = (draw, place + 1, left, withheld, total)
    if opens_late(scheme, coalition):
        silent = (draw, place + 1, left, tuple(sorted(withheld + ((member, value),))), total)
    elif scheme[0] == "shares":
        silent = shown
    elif draw < last_draw(scheme):
        silent = (draw + 1, 0, (), (), 0)
    stake = scheme[3][1] if scheme[0] == "again" else 0
    return ("choice", [shown, silent], (0, stake))
