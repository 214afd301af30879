"""Dealing a secret in shares, and how many polynomials some points leave (points 51 and 52)."""

from lotshown.errors import OutOfRange, Refused, TooMuch
from lotshown.fields import added, multiplied, through, value_at, vanishing
from lotshown.names import is_number

_MOST_SHARES = 12
_MOST_LISTED = 2000


def deal(q, polynomial, n):
    """Return the points of the polynomial at 1 to n."""
    if not is_number(n, 1, min(_MOST_SHARES, q - 1)):
        raise OutOfRange("n is from 1 to 12, and less than q")
    return tuple([(index, value_at(q, polynomial, index)) for index in range(1, n + 1)])


def secret_of(q, threshold, points):
    """Return the secret that the points tell."""
    if len(points) < threshold:
        raise Refused("there are fewer points than the threshold")
    polynomial = through(q, points[:threshold])
    if not _goes_through(q, polynomial, points):
        raise Refused("the points lie on no polynomial with this threshold")
    return value_at(q, polynomial, 0)


def _goes_through(q, polynomial, points):
    return all(value_at(q, polynomial, index) == value for index, value in points)


def count(q, threshold, points, secret):
    """Return how many polynomials go through all points and have the secret."""
    if len(points) >= threshold:
        polynomial = through(q, points[:threshold])
        fits = polynomial[0] == secret and _goes_through(q, polynomial, points)
        return 1 if fits else 0
    product = 1
    for _ in range(threshold - 1 - len(points)):
        product = product * q
    return product


def polynomials(q, threshold, points, secret):
    """Return the ascending list of the polynomials through all points that have the secret."""
    found = count(q, threshold, points, secret)
    if found > _MOST_LISTED:
        raise TooMuch("there are more than 2000 polynomials")
    if found == 0:
        return []
    if len(points) >= threshold:
        return [through(q, points[:threshold])]
    known = ((0, secret),) + points
    one = through(q, known)
    nought = vanishing(q, known)
    rows = _all_rows(q, threshold - len(known))
    return sorted([added(q, one, multiplied(q, nought, row)) for row in rows])


def _all_rows(q, size):
    rows = [()]
    for _ in range(size):
        rows = [row + (number,) for row in rows for number in range(q)]
    return rows
