"""Games, picks and systems (points 30, 31, 33 and 34)."""

from itertools import combinations
from math import comb

from lotshown.errors import TooMuch
from lotshown.names import ascends, is_number

_MOST_FIELDS = 4
_MOST_PICKS = 10 ** 15
_MOST_LISTED = 5000


def is_game(value):
    """Tell whether the value, of any kind, is a game."""
    if not isinstance(value, tuple) or not 1 <= len(value) <= _MOST_FIELDS:
        return False
    return all(_is_field(field) for field in value) and many(value) <= _MOST_PICKS


def _is_field(value):
    if not isinstance(value, tuple) or len(value) != 3:
        return False
    kind, n, k = value
    if kind == "choice":
        return is_number(n, 1, 100) and is_number(k, 1, min(n, 10))
    return kind in ("figures", "tail") and is_number(n, 2, 36) and is_number(k, 1, 8)


def is_pick(game, value):
    """Tell whether the value, of any kind, is a pick of the game."""
    if not isinstance(value, tuple) or len(value) != len(game):
        return False
    return all(_is_part(field, part) for field, part in zip(game, value))


def _is_part(field, part):
    kind, n, k = field
    if kind == "choice":
        return _is_choice(part, 1, n, k, k)
    return isinstance(part, tuple) and len(part) == k and all(is_number(figure, 0, n - 1) for figure in part)


def _is_choice(value, low, high, least, most):
    """Tell whether the value is an ascending tuple of so many different integers within the bounds."""
    if not isinstance(value, tuple) or not least <= len(value) <= most:
        return False
    return all(is_number(number, low, high) for number in value) and ascends(value)


def is_system(game, value):
    """Tell whether the value, of any kind, is a system of the game."""
    if not isinstance(value, tuple) or len(value) != len(game):
        return False
    return all(_is_system_part(field, part) for field, part in zip(game, value))


def _is_system_part(field, part):
    kind, n, k = field
    if kind == "choice":
        return _is_choice(part, 1, n, k, n)
    if not isinstance(part, tuple) or len(part) != k:
        return False
    return all(_is_choice(figures, 0, n - 1, 1, n) for figures in part)


def many(game):
    """Return the number of the picks of a game."""
    return held(game, whole(game))


def whole(game):
    """Return the system that holds all picks of a game."""
    return tuple([_whole_part(field) for field in game])


def _whole_part(field):
    kind, n, k = field
    return tuple(range(1, n + 1)) if kind == "choice" else (tuple(range(n)),) * k


def alone(game, pick):
    """Return the system that holds just the pick."""
    return tuple([
        part if field[0] == "choice" else tuple([(figure,) for figure in part])
        for field, part in zip(game, pick)
    ])


def holds(game, system, pick):
    """Tell whether the system holds the pick."""
    return held(game, _both(game, system, alone(game, pick))) == 1


def held(game, system):
    """Return the number of the picks that the system holds."""
    total = 1
    for field, part in zip(game, system):
        total = total * _held_part(field, part)
    return total


def _held_part(field, part):
    kind, _, k = field
    if kind == "choice":
        return comb(len(part), k)
    total = 1
    for figures in part:
        total = total * len(figures)
    return total


def picks_of(game, system):
    """Return the ascending list of the picks that the system holds."""
    if held(game, system) > _MOST_LISTED:
        raise TooMuch("the system holds more than 5000 picks")
    return all_picks(game, system)


def all_picks(game, system):
    """Return the ascending list of the picks that the system holds, however many they are."""
    picks = [()]
    for field, part in zip(game, system):
        row = parts_of(field, part)
        picks = [pick + (one,) for pick in picks for one in row]
    return picks


def parts_of(field, part):
    """Return the ascending list of the parts of picks that the part of a system holds."""
    kind, _, k = field
    if kind == "choice":
        return _choices(list(part), k)
    rows = [()]
    for figures in part:
        rows = [row + (figure,) for row in rows for figure in figures]
    return rows


def _choices(numbers, k):
    return list(combinations(numbers, k))


def common(game, one, other):
    """Return how many picks both systems hold."""
    return held(game, _both(game, one, other))


def _both(game, one, other):
    """Return what both systems have; its parts may be too short for a system."""
    return tuple([
        _shared(mine, yours) if field[0] == "choice" else tuple([_shared(a, b) for a, b in zip(mine, yours)])
        for field, mine, yours in zip(game, one, other)
    ])


def _shared(one, other):
    return tuple([number for number in one if number in other])


def different(game, systems):
    """Return the number of the different picks of a list of systems."""
    # Each pick counts once: what several systems share is taken off and put back by turns.
    counts = {}
    for system in systems:
        added = {system: 1}
        for shared in counts:
            both = _both(game, shared, system)
            if held(game, both) > 0:
                added[both] = added.get(both, 0) - counts[shared]
        for shared in added:
            counts[shared] = counts.get(shared, 0) + added[shared]
    return sum(counts[shared] * held(game, shared) for shared in counts)
