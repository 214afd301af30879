"""The octets and digits that a seed gives (points 110 and 111)."""

from lotshown.digest import digest
from lotshown.errors import NotThere, OutOfRange
from lotshown.names import is_number
from lotshown.octets import is_octets, of_number, packed, unhexed

_MOST_SEED = 64
_MOST_BLOCK = 10 ** 15
_MOST_COUNT = 100000
_NUMBER_SIZE = 8
_BLOCK_SIZE = 32
# How many bits a digit has, by the base.
_BITS = {2: 1, 4: 2, 16: 4, 256: 8}


def is_seed(value):
    """Tell whether the value, of any kind, is a seed."""
    return is_octets(value, _MOST_SEED) and len(value) >= 1


def block(seed, number):
    """Return the octets of the block with the number."""
    if not is_number(number, 0, _MOST_BLOCK):
        raise OutOfRange("the number of a block is from 0 to 10^15")
    return unhexed(digest(packed([seed, of_number(number, _NUMBER_SIZE)])))


def stream(seed, count):
    """Return so many first octets of the stream."""
    _check_count(count)
    return first_digits(seed, 256, count)


def digits(seed, base, count):
    """Return so many first digits of the stream with the base 2, 4, 16 or 256."""
    check_base(base)
    _check_count(count)
    return first_digits(seed, base, count)


def check_base(base):
    """Raise NotThere if the octets of a stream give no digits with the base."""
    if base not in _BITS:
        raise NotThere("a stream has digits with the bases 2, 4, 16 and 256")


def _check_count(count):
    if not is_number(count, 0, _MOST_COUNT):
        raise OutOfRange("so many octets or digits are not given at once")


def first_digits(seed, base, count):
    """Return so many first digits with one of the four bases, however many they are."""
    bits = _BITS[base]
    in_octet = 8 // bits
    octets = -(-count // in_octet)
    row = []
    for number in range(-(-octets // _BLOCK_SIZE)):
        for octet in block(seed, number):
            for at in range(in_octet - 1, -1, -1):
                row.append(octet >> (bits * at) & (base - 1))
    return tuple(row[:count])
