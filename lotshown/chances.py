"""The chances of classes, and what escapes some systems (points 37 and 39)."""

from math import comb

from lotshown.errors import NotThere, TooMuch
from lotshown.games import all_picks, many, parts_of, whole
from lotshown.hits import spread, ways_together
from lotshown.names import is_number
from lotshown.parts import made

_MOST_PICKS = 20000


def ways_to_hit(field, h):
    """Return by how many parts h are hit in a field."""
    kind, n, k = field
    if not is_number(h, 0, k):
        return 0
    if kind == "choice":
        return comb(k, h) * comb(n - k, k - h)
    if kind == "figures":
        return comb(k, h) * _power(n - 1, k - h)
    return 1 if h == k else (n - 1) * _power(n, k - h - 1)


def _power(base, exponent):
    product = 1
    for _ in range(exponent):
        product = product * base
    return product


def chance(game, classes, place):
    """Return the chance of the class for one pick."""
    _check_place(classes, place)
    ways = [[ways_to_hit(field, h) for h in range(field[2] + 1)] for field in game]
    return made(sum(ways_together(ways, row) for row in classes[place]), many(game))


def _check_place(classes, place):
    if not is_number(place, 0, len(classes) - 1):
        raise NotThere("there is no such class")


def escaping(game, classes, systems, place):
    """Return the least pick that escapes the systems, or None."""
    picks = _all_escaping(game, classes, systems, place)
    return picks[0] if picks else None


def share(game, classes, systems, place):
    """Return the fraction of all picks that do not escape the systems."""
    picks = _all_escaping(game, classes, systems, place)
    return made(many(game) - len(picks), many(game))


def _all_escaping(game, classes, systems, place):
    _check_place(classes, place)
    if many(game) > _MOST_PICKS:
        raise TooMuch("the game has more than 20000 picks")
    rows = [row for better in classes[:place + 1] for row in better]
    picks = all_picks(game, whole(game))
    for system in systems:
        tables = _spread_tables(game, system)
        picks = [pick for pick in picks if not _is_met(tables, rows, pick)]
    return picks


def _spread_tables(game, system):
    """List for each field the spreads of the system by what may be drawn, as many picks share a part."""
    return [
        {drawn: spread(field, part, drawn) for drawn in parts_of(field, everything)}
        for field, part, everything in zip(game, system, whole(game))
    ]


def _is_met(tables, rows, pick):
    spreads = [table[part] for table, part in zip(tables, pick)]
    return any(ways_together(spreads, row) > 0 for row in rows)
