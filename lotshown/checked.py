"""Promises of pairs of numbers, and shares that everybody can check (points 53 to 57)."""

from lotshown.errors import Malformed, OutOfRange, Refused
from lotshown.fields import inverse, is_prime, power, through, value_at
from lotshown.names import is_number

_MOST_THRESHOLD = 8


def is_group(value):
    """Tell whether the value, of any kind, is a group."""
    if not isinstance(value, tuple) or len(value) != 4:
        return False
    p, q, g, h = value
    if not is_prime(p) or not is_prime(q) or not 3 <= q < p or (p - 1) % q != 0:
        return False
    return all(is_number(base, 2, p - 1) and power(base, q, p) == 1 for base in (g, h))


def is_element(group, value):
    """Tell whether the value, of any kind, is an element of the group."""
    p, q = group[:2]
    return is_number(value, 1, p - 1) and power(value, q, p) == 1


def promise(group, value, blind):
    """Return the promise of the pair (value, blind)."""
    q = group[1]
    if not is_number(value, 0, q - 1) or not is_number(blind, 0, q - 1):
        raise OutOfRange("a value and a blind are from 0 to q - 1")
    return _promised(group, value, blind)


def _promised(group, value, blind):
    p, _, g, h = group
    return power(g, value, p) * power(h, blind, p) % p


def row_of(group, dealing):
    """Return the row of a dealing."""
    _check_dealing(group, dealing)
    secrets, blinds = dealing
    return tuple([promise(group, value, blind) for value, blind in zip(secrets, blinds)])


def share_of(group, dealing, index):
    """Return the share of a dealing at an index."""
    _check_dealing(group, dealing)
    q = group[1]
    if not is_number(index, 1, q - 1):
        raise OutOfRange("an index is from 1 to q - 1")
    secrets, blinds = dealing
    return (index, value_at(q, secrets, index), value_at(q, blinds, index))


def _check_dealing(group, value):
    """Raise Malformed if the value, of any kind, is no dealing."""
    if not isinstance(value, tuple) or len(value) != 2:
        raise Malformed("a dealing is a pair")
    if not all(_is_polynomial(group[1], polynomial) for polynomial in value):
        raise Malformed("a dealing is a pair of polynomials")
    secrets, blinds = value
    if len(secrets) != len(blinds):
        raise Malformed("both polynomials of a dealing have the same threshold")


def _is_polynomial(q, value):
    if not isinstance(value, tuple) or not 1 <= len(value) <= _MOST_THRESHOLD:
        return False
    return all(is_number(coefficient, 0, q - 1) for coefficient in value)


def checks(group, row, value):
    """Tell whether the value, of any kind, is a share that checks with the row."""
    if not isinstance(value, tuple) or len(value) != 3:
        return False
    q = group[1]
    index, number, blind = value
    if not is_number(index, 1, q - 1) or not is_number(number, 0, q - 1) or not is_number(blind, 0, q - 1):
        return False
    return promise(group, number, blind) == _promise_at(group, row, index)


def _promise_at(group, row, index):
    """Return the promise of the share at an index, as the row tells it."""
    p = group[0]
    product = 1
    for element in reversed(row):
        product = power(product, index, p) * element % p
    return product


def open_checked(group, row, shares):
    """Return the secret and the blind that the first shares tell which check, as many as are needed."""
    taken = {}
    for share in shares:
        if len(taken) < len(row) and checks(group, row, share):
            taken.setdefault(share[0], share)
    if len(taken) < len(row):
        raise Refused("there are too few shares that check")
    return _coefficients(group, [taken[index] for index in taken])[0]


def _coefficients(group, shares):
    """List the pairs of coefficients of the two polynomials through shares with different indices."""
    q = group[1]
    secrets = through(q, tuple([(index, number) for index, number, _ in shares]))
    blinds = through(q, tuple([(index, blind) for index, _, blind in shares]))
    return list(zip(secrets, blinds))


def told(group, one, other):
    """Return the number x with g^x = h that two different pairs with the same promise tell."""
    q = group[1]
    value, blind = one[0] % q, one[1] % q
    second, cover = other[0] % q, other[1] % q
    if (value, blind) == (second, cover):
        raise Refused("both pairs are equal")
    if _promised(group, value, blind) != _promised(group, second, cover):
        raise Refused("both pairs do not have the same promise")
    return (value - second) * inverse((cover - blind) % q, q) % q


def openings(group, row, shares):
    """Return two different pairs with the same promise that come out of the shares that check, or None."""
    known = {}
    for share in shares:
        if checks(group, row, share):
            earlier = known.setdefault(share[0], share)
            if earlier != share:
                return (earlier[1:], share[1:])
    return _parted(group, len(row), [known[index] for index in known])


def _parted(group, threshold, shares):
    """Return two different pairs of coefficients of equal powers from two choices of shares, or None."""
    if len(shares) <= threshold:
        return None
    first = shares[:threshold]
    pairs = _coefficients(group, first)
    for share in shares[threshold:]:
        # Only a share that is off the first polynomials leads to others.
        for pair, other in zip(pairs, _coefficients(group, first[1:] + [share])):
            if pair != other:
                return (pair, other)
    return None
