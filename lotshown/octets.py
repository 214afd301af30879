"""Octets, their writings and their packings (points 10 and 11)."""

from lotshown.errors import Malformed, OutOfRange
from lotshown.names import is_number

_MOST = 100000
_MOST_SIZE = 64
_HEX_SIGNS = "0123456789abcdef"
_LENGTH_SIZE = 4


def is_octets(value, most):
    """Tell whether the value, of any kind, is octets, at most so many."""
    if not isinstance(value, tuple) or len(value) > min(most, _MOST):
        return False
    return all(is_number(octet, 0, 255) for octet in value)


def of_number(number, size):
    """Return the octets of a number, the highest one first."""
    if not is_number(size, 0, _MOST_SIZE) or not 0 <= number < 1 << (8 * size):
        raise OutOfRange("the number does not fit, or the size is not from 0 to 64")
    return tuple([number >> (8 * at) & 255 for at in range(size - 1, -1, -1)])


def number_of(octets):
    """Return the number that octets, the highest one first, write."""
    if len(octets) > _MOST_SIZE:
        # By halves, as adding octet by octet is slow for a long number.
        half = len(octets) // 2
        return number_of(octets[:half]) << (8 * (len(octets) - half)) | number_of(octets[half:])
    number = 0
    for octet in octets:
        number = number << 8 | octet
    return number


def of_text(text):
    """Return the octets of a text."""
    codes = tuple([ord(sign) for sign in text])
    if any(code > 127 for code in codes):
        raise Malformed("each sign of the text must have a code below 128")
    return codes


def hexed(octets):
    """Return the hex of octets."""
    return "".join(_HEX_SIGNS[octet >> 4] + _HEX_SIGNS[octet & 15] for octet in octets)


def unhexed(text):
    """Return the octets whose hex the text is."""
    if len(text) % 2 == 1 or len(text) > 2 * _MOST or not is_hex(text):
        raise Malformed("the text is not the hex of octets")
    halves = [_HEX_SIGNS.find(sign) for sign in text]
    return tuple([halves[at] << 4 | halves[at + 1] for at in range(0, len(halves), 2)])


def is_hex(text):
    """Tell whether all signs of a text are those of hex."""
    return all(sign in _HEX_SIGNS for sign in text)


def packed(parts):
    """Return the packing of a list of octets."""
    row = []
    for part in parts:
        row.extend(of_number(len(part), _LENGTH_SIZE))
        row.extend(part)
    return tuple(row)


def unpacked(octets):
    """Return the list of octets whose packing the octets are."""
    parts = []
    at = 0
    while at < len(octets):
        first = at + _LENGTH_SIZE
        at = first + number_of(octets[at:first])
        if at > len(octets):
            raise Malformed("the octets end ahead of what was packed")
        parts.append(octets[first:at])
    return parts
