"""Fractions (points 4 to 7)."""

from math import gcd

from lotshown.errors import Malformed, NotThere, OutOfRange, Refused
from lotshown.names import is_decimal, is_number

_MOST = 10 ** 60
_MOST_FIGURES = 61
_PIECE_FIGURES = 60


def is_fraction(value):
    """Tell whether the value, of any kind, is a fraction within the bounds."""
    if not isinstance(value, tuple) or len(value) != 2:
        return False
    part, whole = value
    return is_number(part, -_MOST, _MOST) and is_number(whole, 1, _MOST) and gcd(part, whole) == 1


def made(part, whole):
    """Return the fraction of part through whole in lowest terms."""
    if whole == 0:
        raise OutOfRange("nothing can be divided by nought")
    divisor = gcd(part, whole) if whole > 0 else -gcd(part, whole)
    return (part // divisor, whole // divisor)


def plus(one, other):
    """Return the sum of two fractions."""
    return made(one[0] * other[1] + other[0] * one[1], one[1] * other[1])


def minus(one, other):
    """Return the difference of two fractions."""
    return made(one[0] * other[1] - other[0] * one[1], one[1] * other[1])


def times(one, other):
    """Return the product of two fractions."""
    return made(one[0] * other[0], one[1] * other[1])


def through(one, other):
    """Return the quotient of two fractions."""
    return made(one[0] * other[1], one[1] * other[0])


def less(one, other):
    """Tell whether one fraction is less than the other."""
    return one[0] * other[1] < other[0] * one[1]


def rounded(fraction, way):
    """Return the integer near a fraction by the way "down", "up" or "near"."""
    part, whole = fraction
    if way == "down":
        return part // whole
    if way == "up":
        return -(-part // whole)
    if way == "near":
        return _nearest(part, whole)
    raise NotThere("there is no such way to round")


def _nearest(part, whole):
    low, rest = divmod(part, whole)
    if 2 * rest == whole:
        return low + low % 2
    return low if 2 * rest < whole else low + 1


def write(fraction):
    """Return the writing of a fraction."""
    part, whole = fraction
    return _figures(part) if whole == 1 else _figures(part) + "/" + _figures(whole)


def _figures(number):
    if number < 0:
        return "-" + _figures(-number)
    # Piece by piece, as Python refuses to write integers of some thousand figures at once.
    pieces = []
    while number >= _MOST:
        number, low = divmod(number, _MOST)
        pieces.append(str(low).zfill(_PIECE_FIGURES))
    pieces.append(str(number))
    pieces.reverse()
    return "".join(pieces)


def read(text):
    """Return the fraction within the bounds whose writing the text is."""
    part, slash, whole = text.partition("/")
    if slash == "":
        whole = "1"
    elif whole == "1":
        raise Malformed("a whole number is written without a slash")
    if not is_decimal(part, _MOST_FIGURES) or not is_decimal(whole, _MOST_FIGURES):
        raise Malformed("a fraction is written in plain decimal integers")
    fraction = (int(part), int(whole))
    if not is_fraction(fraction):
        raise Malformed("the fraction is not in lowest terms or not within the bounds")
    return fraction


def dealt(amount, weights):
    """Return the list of the shares of an amount that is dealt by weights."""
    total = sum(weights)
    if total == 0:
        raise Refused("all weights are 0")
    shares = [amount * weight // total for weight in weights]
    rests = [amount * weight % total for weight in weights]
    missing = amount - sum(shares)
    # Sorting keeps equal rests in their order, so the lower index comes first.
    order = sorted(range(len(weights)), key=lambda at: -rests[at])
    for at in order[:missing]:
        shares[at] += 1
    return shares
