"""What a coalition can do by a scheme, without its machine (points 88 to 92)."""

from lotshown.errors import TooMuch
from lotshown.parts import made, minus, times
from lotshown.schemes import honest_many
from lotshown.sums import to_power

_MOST_VALUES = 20000


def tail(scheme, coalition):
    """Return the members behind the last honest party, in the order of the scheme."""
    members = []
    for party in scheme[2]:
        members = members + [party] if party in coalition else []
    return tuple(members)


def effective_tail(scheme, coalition):
    """Return those members who can choose when they know the sum of all others."""
    way, _, order, rest = scheme
    if way == "beacon" or way == "shares" and honest_many(scheme, coalition) >= rest[0]:
        return ()
    if way == "shares":
        return tuple([party for party in order if party in coalition])
    return tail(scheme, coalition)


def greatest_chance(scheme, coalition, wanted):
    """Return the greatest chance that the result is one of the wanted numbers."""
    way, size, _, rest = scheme
    members = len(effective_tail(scheme, coalition))
    if to_power(size, members) > _MOST_VALUES:
        raise TooMuch("the tail has more than 20000 values")
    even = made(len(wanted), size)
    if way == "beacon":
        return even
    known = honest_many(scheme, coalition) == 0
    chance = _chance_of_tail(size, members, wanted, known)
    if way == "again" and (known or members > 0):
        return _chance_again(even, chance, rest[0])
    return chance


def _chance_again(even, chance, rounds):
    """Return the chance if each draw ahead of the last one can be made void."""
    missed = minus((1, 1), chance)
    for _ in range(rounds):
        missed = times(missed, minus((1, 1), even))
    return minus((1, 1), missed)


def _chance_of_tail(size, members, wanted, known):
    """Return the greatest chance if so many members choose last, behind a sum that is known to be 0 or even."""
    good = sum(1 << number for number in wanted)
    starts = [0] if known else list(range(size))
    met = 0
    reached = _reached(size, members)
    for mask in reached:
        met += reached[mask] * len([start for start in starts if _turned(size, mask, start) & good != 0])
    return made(met, to_power(size, members) * len(starts))


def _reached(size, members):
    """Count for each set of sums by how many values of the members just these are sums of some of them.

    A set of sums modulo the size is a mask: each sum has the bit with its number.
    """
    counts = {1: 1}
    for _ in range(members):
        more = {}
        for mask in counts:
            for value in range(size):
                both = mask | _turned(size, mask, value)
                more[both] = more.get(both, 0) + counts[mask]
        counts = more
    return counts


def _turned(size, mask, value):
    """Return the set of sums with the value added to each of them."""
    shifted = mask << value
    return (shifted | shifted >> size) & ((1 << size) - 1)


def is_fair_for(scheme, coalition):
    """Tell whether all results are equally likely, whatever the coalition chooses."""
    if scheme[0] == "beacon" or len(coalition) == 0:
        return True
    if scheme[0] == "shares":
        return honest_many(scheme, coalition) >= scheme[3][0]
    return len(tail(scheme, coalition)) == 0 and honest_many(scheme, coalition) > 0


def needed_honest(scheme):
    """Return the least number of honest parties with which the scheme is fair, whoever they are."""
    way, _, order, rest = scheme
    if way == "beacon":
        return 0
    if way == "shares":
        return rest[0]
    # The last party alone can withhold when it knows the sum of all others.
    return len(order)
