"""Digests, seals and coincidences (points 12 to 15)."""

from lotshown.errors import OutOfRange
from lotshown.names import is_number
from lotshown.octets import hexed, is_hex, is_octets, of_number

_MASK = 2 ** 32 - 1
_MOST_WIDTH = 32
_MOST_OCTETS = 100000
# Written out, as reckoning the roots anew would take longer than a digest.
_START_WORDS = (
    0x6a09e667, 0xbb67ae85, 0x3c6ef372, 0xa54ff53a, 0x510e527f, 0x9b05688c, 0x1f83d9ab, 0x5be0cd19,
)
_CONSTANTS = (
    0x428a2f98, 0x71374491, 0xb5c0fbcf, 0xe9b5dba5, 0x3956c25b, 0x59f111f1, 0x923f82a4, 0xab1c5ed5,
    0xd807aa98, 0x12835b01, 0x243185be, 0x550c7dc3, 0x72be5d74, 0x80deb1fe, 0x9bdc06a7, 0xc19bf174,
    0xe49b69c1, 0xefbe4786, 0x0fc19dc6, 0x240ca1cc, 0x2de92c6f, 0x4a7484aa, 0x5cb0a9dc, 0x76f988da,
    0x983e5152, 0xa831c66d, 0xb00327c8, 0xbf597fc7, 0xc6e00bf3, 0xd5a79147, 0x06ca6351, 0x14292967,
    0x27b70a85, 0x2e1b2138, 0x4d2c6dfc, 0x53380d13, 0x650a7354, 0x766a0abb, 0x81c2c92e, 0x92722c85,
    0xa2bfe8a1, 0xa81a664b, 0xc24b8b70, 0xc76c51a3, 0xd192e819, 0xd6990624, 0xf40e3585, 0x106aa070,
    0x19a4c116, 0x1e376c08, 0x2748774c, 0x34b0bcb5, 0x391c0cb3, 0x4ed8aa4a, 0x5b9cca4f, 0x682e6ff3,
    0x748f82ee, 0x78a5636f, 0x84c87814, 0x8cc70208, 0x90befffa, 0xa4506ceb, 0xbef9a3f7, 0xc67178f2,
)


def constants():
    """Return the 64 constants of the digest."""
    return _CONSTANTS


def start_words():
    """Return the 8 start words of the digest."""
    return _START_WORDS


def digest(octets):
    """Return the digest of octets."""
    message = _lengthened(octets)
    words = _START_WORDS
    for at in range(0, len(message), 64):
        words = _mixed(words, _schedule(message[at:at + 64]))
    return "".join(hexed(of_number(word, 4)) for word in words)


def _lengthened(octets):
    zeros = (55 - len(octets)) % 64
    return octets + (128,) + (0,) * zeros + of_number(8 * len(octets), 8)


def _schedule(block):
    words = [
        block[at] << 24 | block[at + 1] << 16 | block[at + 2] << 8 | block[at + 3]
        for at in range(0, 64, 4)
    ]
    for t in range(16, 64):
        early = words[t - 15]
        late = words[t - 2]
        # A word doubled, shifted to the right and cut, is the word turned.
        turned = early << 32 | early
        u = (turned >> 7 ^ turned >> 18) & _MASK ^ early >> 3
        turned = late << 32 | late
        v = (turned >> 17 ^ turned >> 19) & _MASK ^ late >> 10
        words.append(words[t - 16] + words[t - 7] + u + v & _MASK)
    return words


def _mixed(start, words):
    a, b, c, d, e, f, g, h = start
    for constant, word in zip(_CONSTANTS, words):
        turned = e << 32 | e
        chosen = e & f | ~e & g
        x = h + ((turned >> 6 ^ turned >> 11 ^ turned >> 25) & _MASK) + chosen + constant + word
        turned = a << 32 | a
        shared = a & b | a & c | b & c
        y = ((turned >> 2 ^ turned >> 13 ^ turned >> 22) & _MASK) + shared
        h, g, f, e, d, c, b, a = g, f, e, d + x & _MASK, c, b, a, x + y & _MASK
    return [old + new & _MASK for old, new in zip(start, (a, b, c, d, e, f, g, h))]


def seal(width, octets):
    """Return the seal of octets."""
    check_width(width)
    return digest(octets)[:2 * width]


def check_width(width):
    """Raise OutOfRange if the width is none."""
    if not is_number(width, 1, _MOST_WIDTH):
        raise OutOfRange("a width is from 1 to 32")


def is_seal(width, value):
    """Tell whether the value, of any kind, is a text as a seal of the width is."""
    check_width(width)
    return isinstance(value, str) and len(value) == 2 * width and is_hex(value)


def is_coincidence(width, value):
    """Tell whether the value, of any kind, is a pair of different octets with one seal."""
    check_width(width)
    if not isinstance(value, tuple) or len(value) != 2:
        return False
    one, other = value
    if not is_octets(one, _MOST_OCTETS) or not is_octets(other, _MOST_OCTETS):
        return False
    return one != other and seal(width, one) == seal(width, other)
