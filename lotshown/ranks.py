"""The numbers of picks (point 32)."""

from math import comb

from lotshown.errors import OutOfRange
from lotshown.games import many
from lotshown.names import is_number


def number_of(game, pick):
    """Return the number of the pick among all picks of the game, ascending."""
    number = 0
    for field, part in zip(game, pick):
        number = number * many((field,)) + _part_number(field, part)
    return number


def _part_number(field, part):
    kind, n, _ = field
    if kind == "choice":
        return choice_number(n, part)
    number = 0
    for figure in part:
        number = number * n + figure
    return number


def pick_of(game, number):
    """Return the pick with the number."""
    if not is_number(number, 0, many(game) - 1):
        raise OutOfRange("the game has no pick with this number")
    parts = []
    for field in reversed(game):
        number, rest = divmod(number, many((field,)))
        parts.append(_part_of(field, rest))
    parts.reverse()
    return tuple(parts)


def _part_of(field, number):
    kind, n, k = field
    if kind == "choice":
        return choice_part(n, k, number)
    figures = []
    for _ in range(k):
        number, figure = divmod(number, n)
        figures.append(figure)
    figures.reverse()
    return tuple(figures)


def choice_number(n, part):
    """Return the number of a part among all parts of as many integers from 1 to n, ascending."""
    number = 0
    passed = 0
    for at, taken in enumerate(part):
        for lower in range(passed + 1, taken):
            number += comb(n - lower, len(part) - at - 1)
        passed = taken
    return number


def choice_part(n, k, number):
    """Return the part of k integers from 1 to n with the number."""
    if not is_number(number, 0, comb(n, k) - 1):
        raise OutOfRange("there is no part with this number")
    part = []
    for taken in range(1, n + 1):
        if len(part) == k:
            break
        # So many parts go on with this integer; the later ones pass it over.
        begun = comb(n - taken, k - len(part) - 1)
        if number < begun:
            part.append(taken)
        else:
            number -= begun
    return tuple(part)
