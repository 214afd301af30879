"""The coin rule, by which money is dealt by parts in whatever pieces it comes (points 150 to 154)."""

from heapq import heappop, heappush

from lotshown.errors import OutOfRange
from lotshown.names import ascends, is_name, is_number
from lotshown.plain import is_row

_MOST_MEMBERS = 40
_MOST_NUMBER = 1000
_MOST_WHOLE = 2000
_MOST_COIN = 10 ** 15


def is_parts(value):
    """Tell whether the value, of any kind, is parts."""
    if not isinstance(value, tuple) or not 1 <= len(value) <= _MOST_MEMBERS:
        return False
    if not all(_is_part(row) for row in value) or not ascends([row[0] for row in value]):
        return False
    return whole_of(value) <= _MOST_WHOLE


def _is_part(value):
    return is_row(value, 2) and is_name(value[0]) and is_part_number(value[1])


def is_part_number(value):
    """Tell whether the value, of any kind, is a number of parts that a member can have."""
    return is_number(value, 1, _MOST_NUMBER)


def whole_of(parts):
    """Return what the numbers of all parts come to."""
    return sum([number for _, number in parts])


def first_owners(parts, many):
    """List the indexes of the members to whom so many first coins of a turn go, at most all of them."""
    whole = whole_of(parts)
    # Who waits for a coin stands at the coin from which its next one is due.
    waiting = [[] for _ in range(whole + 1)]
    waiting[0] = list(range(len(parts)))
    had = [0] * len(parts)
    queue = []
    owners = []
    for given in range(many):
        for index in waiting[given]:
            until = -(-(had[index] + 1) * whole // parts[index][1])
            # Members ascend by their names, so that of equal ones the first by name comes first.
            heappush(queue, (until, index))
        _, taker = heappop(queue)
        owners.append(taker)
        had[taker] += 1
        due = had[taker] * whole // parts[taker][1]
        waiting[max(due, given + 1)].append(taker)
    return owners


def got(parts, coins):
    """Return how many coins each member has when so many have been given."""
    turns, rest = divmod(coins, whole_of(parts))
    numbers = [number * turns for _, number in parts]
    for index in first_owners(parts, rest):
        numbers[index] += 1
    return tuple(numbers)


def owner(parts, coin):
    """Return the member to whom the coin with the number goes."""
    if not is_number(coin, 1, _MOST_COIN):
        raise OutOfRange("the number of a coin is from 1 to 10^15")
    place = (coin - 1) % whole_of(parts)
    return parts[first_owners(parts, place + 1)[place]][0]


def dealt(parts, before, money):
    """Return what each member is dealt of money behind so many coins that were given before."""
    return tuple([late - early for early, late in zip(got(parts, before), got(parts, before + money))])
