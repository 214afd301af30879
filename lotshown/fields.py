"""Primes, and polynomials over the numbers modulo a prime (points 50 and 51)."""

from lotshown.errors import OutOfRange
from lotshown.names import is_number

_MOST_PRIME = 2 ** 62 - 1
_MOST_POINTS = 8
# No composite number below 2^62 passes the test for all of these bases.
_BASES = (2, 3, 5, 7, 11, 13, 17, 19, 23, 29, 31, 37)


def is_prime(value):
    """Tell whether the value, of any kind, is a prime less than 2^62."""
    if not is_number(value, 2, _MOST_PRIME):
        return False
    for base in _BASES:
        if value % base == 0:
            return value == base
    return all(_passes(value, base) for base in _BASES)


def _passes(value, base):
    """Tell whether the odd value looks like a prime to the base."""
    odd = value - 1
    halvings = 0
    while odd % 2 == 0:
        odd = odd // 2
        halvings += 1
    number = power(base, odd, value)
    if number == 1:
        return True
    for _ in range(halvings):
        if number == value - 1:
            return True
        number = number * number % value
    return False


def power(base, exponent, modulus):
    """Return the power of the base modulo the modulus."""
    product = 1
    square = base % modulus
    while exponent > 0:
        if exponent % 2 == 1:
            product = product * square % modulus
        square = square * square % modulus
        exponent = exponent // 2
    return product


def inverse(number, q):
    """Return the inverse of the number modulo the prime q."""
    if not is_number(number, 1, q - 1):
        raise OutOfRange("only the numbers from 1 to q - 1 have an inverse")
    return power(number, q - 2, q)


def value_at(q, polynomial, x):
    """Return the value of the polynomial at x."""
    value = 0
    for coefficient in reversed(polynomial):
        value = (value * x + coefficient) % q
    return value


def through(q, points):
    """Return the polynomial through all points, with as many coefficients as there are points."""
    if not 1 <= len(points) <= _MOST_POINTS:
        raise OutOfRange("a polynomial is taken through 1 to 8 points")
    polynomial = ()
    for at, (x, value) in enumerate(points):
        # What is added is 0 at all other points, and the value at this one.
        others = vanishing(q, points[:at] + points[at + 1:])
        factor = value * inverse(value_at(q, others, x), q) % q
        polynomial = added(q, polynomial, multiplied(q, others, (factor,)))
    return polynomial


def vanishing(q, points):
    """Return the polynomial, with the highest coefficient 1, that is 0 at the indices of all points."""
    nought = (1,)
    for x, _ in points:
        nought = multiplied(q, nought, (-x % q, 1))
    return nought


def added(q, one, other):
    """Return the sum of two polynomials, with as many coefficients as the longer one."""
    size = max(len(one), len(other))
    rows = [polynomial + (0,) * (size - len(polynomial)) for polynomial in (one, other)]
    return tuple([(a + b) % q for a, b in zip(rows[0], rows[1])])


def multiplied(q, one, other):
    """Return the product of two polynomials, the first one with at least one coefficient."""
    row = [0] * (len(one) + len(other) - 1)
    for at, a in enumerate(one):
        for place, b in enumerate(other):
            row[at + place] = (row[at + place] + a * b) % q
    return tuple(row)
