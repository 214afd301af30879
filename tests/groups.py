"""Groups for the tests, and dealings with the same row, which who knows x can make."""

from lotshown.fields import value_at

SMALL = ((7, 3, 2, 4), (7, 3, 4, 4), (13, 3, 3, 9), (11, 5, 3, 4), (23, 11, 2, 3))
# p is the greatest prime below 2^62 for which (p - 1) / 2 is a prime, too.
GREAT = (4611686018427377339, 2305843009213688669, 4, 9)


def number_x(group):
    """Return the number x with g^x = h of a small group."""
    p, q, g, h = group
    return [x for x in range(q) if pow(g, x, p) == h][0]


def bent(group, dealing, shifts):
    """Return another dealing with the same row, by a tuple of what its blinds are less."""
    q = group[1]
    x = number_x(group)
    secrets, blinds = dealing
    return (tuple((a + x * d) % q for a, d in zip(secrets, shifts)), tuple((b - d) % q for b, d in zip(blinds, shifts)))


def dealt(group, dealing, indices):
    """List the shares of a dealing."""
    q = group[1]
    return [(index, value_at(q, dealing[0], index), value_at(q, dealing[1], index)) for index in indices]


def any_dealing(chance, q, threshold):
    return tuple(tuple(chance.randint(0, q - 1) for _ in range(threshold)) for _ in range(2))
