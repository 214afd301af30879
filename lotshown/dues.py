"""What the members of a circle are dealt (points 156 to 159)."""

from lotshown.circles import is_length, spells
from lotshown.dealt import first_owners, got, is_parts, whole_of
from lotshown.errors import NotThere
from lotshown.parts import made
from lotshown.sums import total


def accounts(rule, course):
    """Return the ascending list of the accounts of all members who were ever in."""
    sums = {}
    for parts, paid, won in _dealt_in_spells(rule, course):
        # The wins of a spell are dealt one behind the other, so it does not matter in what pieces they come.
        for (member, _), more, less in zip(parts, _got(parts, won), _got(parts, paid)):
            sums[member] = sums.get(member, 0) + more - less
    return sorted([(member, sums[member]) for member in sums])


def _got(parts, coins):
    return got(parts, coins) if coins > 0 else (0,) * len(parts)


def _dealt_in_spells(rule, course):
    """List for each spell its parts, and what is paid and won by them."""
    paid, won = _money(rule, course)
    return [
        (parts, sum(paid[first:behind]), sum(won[first:behind]))
        for first, behind, parts in _stretches(course)
    ]


def _stretches(course):
    """List for each spell its first entry, the one behind it, and its parts."""
    rows = spells(course)
    ends = [first for first, _ in rows[1:]] + [len(course)]
    return [(first, behind, parts) for (first, parts), behind in zip(rows, ends)]


def _money(rule, course):
    """List for each entry what is paid by it, and what is won and dealt as in the spell of this entry."""
    paid = [0] * len(course)
    won = [0] * len(course)
    purchases = []
    for at, entry in enumerate(course):
        if entry[0] == "buy":
            paid[at] = entry[1]
            purchases.append(at)
        elif entry[0] == "win":
            won[purchases[entry[1]] if rule == "held" else at] += entry[2]
    return paid, won


def exact_account(rule, course, member):
    """Return the sum of the exact shares of a member."""
    shares = []
    for parts, paid, won in _dealt_in_spells(rule, course):
        for name, number in parts:
            if name == member:
                shares.append(made(number * (won - paid), whole_of(parts)))
    if len(shares) == 0:
        raise NotThere("the member was never in")
    return total(shares)


def late(rule, course, member, number):
    """Return for each place the account of a newcomer who joins there and stays, or None."""
    rows = [None] * (len(course) + 1)
    if not is_length(len(course) + 1):
        return rows
    paid, won = _money(rule, course)
    later = 0
    for first, behind, parts in reversed(_stretches(course)):
        joined = tuple(sorted(parts + ((member, number),)))
        if not is_parts(joined):
            # Who joined ahead of this spell would be in, too.
            break
        counts = _counts(joined, member, sum(paid[first:behind]) + sum(won[first:behind]))
        # Who joins behind the last entry of a spell has nothing of it.
        rows[behind] = later
        spent = gained = 0
        for place in range(behind - 1, first - 1, -1):
            spent += paid[place]
            gained += won[place]
            rows[place] = later + _coins(counts, number, gained) - _coins(counts, number, spent)
        later = rows[first]
    return rows


def _counts(parts, member, money):
    """List how many coins the member has of so many first coins of a turn, if there is any money."""
    counts = [0]
    if money > 0:
        for index in first_owners(parts, whole_of(parts)):
            counts.append(counts[-1] + (1 if parts[index][0] == member else 0))
    return counts


def _coins(counts, number, coins):
    """Return how many coins who has so many parts has of so many first coins."""
    if coins == 0:
        return 0
    turns, rest = divmod(coins, len(counts) - 1)
    return number * turns + counts[rest]
