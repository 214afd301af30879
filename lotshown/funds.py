"""Funds that members hold together, and the worth of their parts (points 160 to 164)."""

from lotshown.dealt import is_part_number, is_parts, whole_of
from lotshown.errors import NotThere, Refused
from lotshown.names import is_name, is_number
from lotshown.parts import made
from lotshown.plain import is_amount

_MOST_ENTRIES = 200
_MOST_MONEY = 10 ** 12


def is_fund_course(value):
    """Tell whether the value, of any kind, is a fund course."""
    if not isinstance(value, list) or len(value) > _MOST_ENTRIES:
        return False
    coins, parts = 0, ()
    for entry in value:
        if not _is_entry(entry) or not _can_come(coins, parts, entry):
            return False
        coins, parts = _behind(coins, parts, entry)
        if len(parts) > 0 and not is_parts(parts):
            return False
    return True


def _is_entry(value):
    """Tell whether the value, of any kind, is built as an entry of a fund."""
    if not isinstance(value, tuple) or len(value) < 2:
        return False
    word = value[0]
    if word == "in":
        return len(value) == 4 and _comes_in(value)
    if word == "out":
        return len(value) == 3 and is_name(value[1]) and is_amount(value[2])
    return word in ("put", "take") and len(value) == 2 and is_number(value[1], 1, _MOST_MONEY)


def _comes_in(entry):
    _, member, number, money = entry
    return is_name(member) and is_part_number(number) and is_number(money, 0, _MOST_MONEY)


def _can_come(coins, parts, entry):
    """Tell whether an entry can be made so, but for the parts behind it."""
    word = entry[0]
    if word == "in":
        return _number_of(parts, entry[1]) == 0
    if word == "out" and _number_of(parts, entry[1]) == 0:
        return False
    return word == "put" or entry[-1] <= coins


def _number_of(parts, member):
    """Return the number of the parts of a member, 0 for who is not in."""
    return sum([number for name, number in parts if name == member])


def _behind(coins, parts, entry):
    """Return the coins and the parts behind an entry."""
    word, money = entry[0], entry[-1]
    if word == "in":
        return coins + money, tuple(sorted(parts + (entry[1:3],)))
    if word == "out":
        return coins - money, tuple([row for row in parts if row[0] != entry[1]])
    return (coins + money if word == "put" else coins - money), parts


def fund_behind(course):
    """Return the coins and the parts behind a fund course."""
    coins, parts = 0, ()
    for entry in course:
        coins, parts = _behind(coins, parts, entry)
    return (coins, parts)


def least_entry(coins, parts, number):
    """Return the least money by which a newcomer takes no worth from the others."""
    if len(parts) == 0:
        return 0
    return -(-coins * number // whole_of(parts))


def greatest_leave(coins, parts, member):
    """Return the greatest money by which who leaves takes no worth from those who stay."""
    number = _number_of(parts, member)
    if number == 0:
        raise NotThere("the member has no parts")
    return coins * number // whole_of(parts)


def worth(coins, parts):
    """Return the worth of a part."""
    if len(parts) == 0:
        raise Refused("nobody is in")
    return made(coins, whole_of(parts))


def first_worse(course):
    """Return the index of the first entry by which somebody who stays loses worth, or None."""
    coins, parts = 0, ()
    for at, entry in enumerate(course):
        if _is_worse(coins, parts, entry):
            return at
        coins, parts = _behind(coins, parts, entry)
    return None


def _is_worse(coins, parts, entry):
    if entry[0] == "in":
        return entry[3] < least_entry(coins, parts, entry[2])
    # Who leaves as the last one may take all, and so takes from nobody.
    return entry[0] == "out" and entry[2] > greatest_leave(coins, parts, entry[1])
