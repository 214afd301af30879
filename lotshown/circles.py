"""Courses of a circle whose members hold tickets together, and their spells (points 155 and 156)."""

from lotshown.dealt import is_part_number, is_parts
from lotshown.errors import NotThere
from lotshown.names import is_name, is_number
from lotshown.plain import is_amount

_MOST_ENTRIES = 200
_MOST_MONEY = 10 ** 12
_CHANGES = ("join", "leave", "give")


def is_entry(value):
    """Tell whether the value, of any kind, is built as an entry."""
    if not isinstance(value, tuple) or len(value) < 2:
        return False
    word = value[0]
    if word == "join":
        return len(value) == 3 and is_name(value[1]) and is_part_number(value[2])
    if word == "leave":
        return len(value) == 2 and is_name(value[1])
    if word == "give":
        return len(value) == 4 and _are_two(value[1:3]) and is_part_number(value[3])
    if word == "buy":
        return len(value) == 2 and is_number(value[1], 1, _MOST_MONEY)
    return word == "win" and len(value) == 3 and is_amount(value[1]) and is_number(value[2], 1, _MOST_MONEY)


def _are_two(pair):
    return is_name(pair[0]) and is_name(pair[1]) and pair[0] != pair[1]


def is_course(rule, value):
    """Tell whether the value, of any kind, is a course by the rule."""
    if rule not in ("held", "now"):
        raise NotThere("there is no such rule")
    if not isinstance(value, list) or not is_length(len(value)):
        return False
    parts = ()
    purchases = 0
    for entry in value:
        if not is_entry(entry):
            return False
        if entry[0] in _CHANGES:
            parts = _changed(parts, entry)
            if parts is None:
                return False
        elif not _can_deal(rule, entry, parts, purchases):
            return False
        purchases += 1 if entry[0] == "buy" else 0
    return True


def is_length(many):
    """Tell whether a course can have so many entries."""
    return many <= _MOST_ENTRIES


def _can_deal(rule, entry, parts, purchases):
    """Tell whether money can be dealt when these parts are in, and so many purchases were made."""
    if entry[0] == "buy":
        return len(parts) > 0
    return entry[1] < purchases and (rule == "held" or len(parts) > 0)


def _changed(parts, entry):
    """Return the parts behind an entry join, leave or give, or None if it is not possible."""
    numbers = {member: number for member, number in parts}
    if not _change(numbers, entry):
        return None
    behind = tuple(sorted([(member, numbers[member]) for member in numbers]))
    return behind if len(behind) == 0 or is_parts(behind) else None


def _change(numbers, entry):
    """Change the numbers as the entry tells, and tell whether this can be done."""
    word, member = entry[:2]
    had = numbers.get(member, 0)
    if word == "join":
        numbers[member] = entry[2]
        return had == 0
    given = had if word == "leave" else entry[3]
    if had == 0 or had < given:
        return False
    numbers[member] = had - given
    if numbers[member] == 0:
        del numbers[member]
    if word == "give":
        numbers[entry[2]] = numbers.get(entry[2], 0) + given
    return True


def spells(course):
    """Return for each spell the number of the entries ahead of it, and its parts."""
    parts = ()
    rows = [(0, parts)]
    for at, entry in enumerate(course):
        if entry[0] in _CHANGES:
            parts = _changed(parts, entry)
            rows.append((at + 1, parts))
    return rows


def parts_behind(course):
    """Return the parts behind a course."""
    return spells(course)[-1][1]
