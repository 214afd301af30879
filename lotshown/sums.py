"""Fractions of any size, and sums of many of them."""

from math import gcd, lcm

from lotshown.parts import made


def is_any_fraction(value):
    """Tell whether the value, of any kind, is a fraction of any size."""
    if not isinstance(value, tuple) or len(value) != 2 or not all(_is_integer(number) for number in value):
        return False
    part, whole = value
    return whole >= 1 and gcd(part, whole) == 1


def _is_integer(value):
    return isinstance(value, int) and not isinstance(value, bool)


def total(fractions):
    """Return the sum of a list of fractions."""
    whole = common_whole([fraction[1] for fraction in fractions])
    return made(sum([part * (whole // other) for part, other in fractions]), whole)


def common_whole(wholes):
    """Return the least number that is a multiple of each of a list of numbers."""
    whole = 1
    for other in wholes:
        # Most often nothing is to be done, and a rest is found faster than a common divisor.
        if whole % other != 0:
            whole = lcm(whole, other)
    return whole


def to_power(base, exponent):
    """Return the power of an integer, with an exponent from 0 on."""
    product = 1
    square = base
    while exponent > 0:
        if exponent % 2 == 1:
            product = product * square
        square = square * square
        exponent = exponent // 2
    return product
