"""Hits, classes, and what systems win (points 35, 36, 38 and 40)."""

from math import comb

from lotshown.names import ascends, is_number

_MOST_CLASSES = 12


def hits(game, pick, drawn):
    """Return the hits of the pick."""
    return tuple([_part_hits(field, part, one) for field, part, one in zip(game, pick, drawn)])


def _part_hits(field, part, drawn):
    if field[0] == "choice":
        return len([number for number in part if number in drawn])
    same = [figure == other for figure, other in zip(part, drawn)]
    if field[0] == "figures":
        return same.count(True)
    same.reverse()
    return same.index(False) if False in same else len(same)


def is_classes(game, value):
    """Tell whether the value, of any kind, is classes of the game."""
    if not isinstance(value, tuple) or not 1 <= len(value) <= _MOST_CLASSES:
        return False
    if not all(_is_class(game, rows) for rows in value):
        return False
    told = [row for rows in value for row in rows]
    return len(set(told)) == len(told)


def _is_class(game, value):
    if not isinstance(value, tuple) or len(value) == 0:
        return False
    return all(_is_hits(game, row) for row in value) and ascends(value)


def _is_hits(game, value):
    if not isinstance(value, tuple) or len(value) != len(game):
        return False
    return all(is_number(h, 0, field[2]) for field, h in zip(game, value))


def class_of(game, classes, pick, drawn):
    """Return the class of the pick, or None."""
    found = hits(game, pick, drawn)
    for place, rows in enumerate(classes):
        if found in rows:
            return place
    return None


def spread(field, part, drawn):
    """List for h = 0, 1, .. how many of the parts that a system's part holds have h hits."""
    kind, _, k = field
    if kind == "choice":
        inside = len([number for number in part if number in drawn])
        return [comb(inside, h) * comb(len(part) - inside, k - h) for h in range(k + 1)]
    ways = [1]
    for figures, figure in zip(part, drawn):
        hit = 1 if figure in figures else 0
        missed = len(figures) - hit
        if kind == "figures":
            ways = [stay * missed + rise * hit for stay, rise in zip(ways + [0], [0] + ways)]
        else:
            # A figure that is missed ends the run of hits, so that it begins anew.
            ways = [sum(ways) * missed] + [rise * hit for rise in ways]
    return ways


def ways_together(spreads, row):
    """Return how many picks have the hits, if the fields have these spreads."""
    total = 1
    for ways, h in zip(spreads, row):
        total = total * ways[h]
    return total


def wins(game, classes, system, drawn):
    """Return for each class how many of the picks that the system holds are in it."""
    spreads = [spread(field, part, one) for field, part, one in zip(game, system, drawn)]
    return tuple([sum(ways_together(spreads, row) for row in rows) for rows in classes])


def best_class(game, classes, systems, drawn):
    """Return the least class that a pick of one of the systems is in, or None."""
    rows = [wins(game, classes, system, drawn) for system in systems]
    for place in range(len(classes)):
        if any(row[place] > 0 for row in rows):
            return place
    return None
