"""The streams of seeds, and drawing below a bound, told plainly, for the tests."""

import hashlib
from fractions import Fraction


def plain_block(seed, number):
    packing = len(seed).to_bytes(4, "big") + bytes(seed) + (8).to_bytes(4, "big") + number.to_bytes(8, "big")
    return tuple(hashlib.sha256(packing).digest())


def plain_stream(seed, count):
    row = ()
    for number in range(count // 32 + 1):
        row += plain_block(seed, number)
    return row[:count]


def plain_draw(n, manner, base, row):
    """Return what is drawn, and how many digits were read, or None if the row is too short."""
    kind, m, tries = manner
    if n == 1:
        return (0, 0)
    whole, read = base ** m, 0
    for turn in range(1, tries + 1):
        if read + m > len(row):
            return None
        number = sum(digit * base ** place for place, digit in enumerate(reversed(row[read:read + m])))
        read += m
        if kind == "scale":
            return (int(Fraction(number * n, whole) // 1), read)
        if kind == "mod" or number < n * (whole // n) or turn == tries:
            return (number % n, read)
