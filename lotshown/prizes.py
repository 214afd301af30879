"""Tables of prizes, and how a round is settled (points 130 to 134)."""

from lotshown.names import is_number
from lotshown.parts import is_fraction, less
from lotshown.sums import total

_MOST_WHOLE = 10000
_MOST_MONEY = 10 ** 12
_MOST_PRICE = 10 ** 6
_MOST_CLASSES = 8
_MOST_SOLD = 10 ** 9
_MOST_WINNERS = 10 ** 6


def _is_rate(value):
    if not is_fraction(value) or value[1] > _MOST_WHOLE:
        return False
    return 0 <= value[0] <= value[1]


def is_class(value):
    """Tell whether the value, of any kind, is a class."""
    if not isinstance(value, tuple) or len(value) != 5:
        return False
    word, money, rate, cap, rest = value
    if not is_number(money, 0, _MOST_MONEY) or not _is_rate(rate) or not is_number(cap, 0, _MOST_MONEY):
        return False
    if word == "fixed":
        return rate == (0, 1) and cap == 0 and rest == "keep"
    return word == "shared" and rest in ("roll", "down", "keep")


def is_table(value):
    """Tell whether the value, of any kind, is a table."""
    if not isinstance(value, tuple) or len(value) != 4:
        return False
    price, due, most, classes = value
    if not is_number(price, 1, _MOST_PRICE) or not _is_rate(due) or not is_number(most, 0, _MOST_MONEY):
        return False
    if not isinstance(classes, tuple) or not 1 <= len(classes) <= _MOST_CLASSES:
        return False
    if not all(is_class(row) for row in classes):
        return False
    return not less((1, 1), total([due] + [row[2] for row in classes]))


def is_outcome(table, value):
    """Tell whether the value, of any kind, is an outcome of the table."""
    if not isinstance(value, tuple) or len(value) != 2:
        return False
    sold, winners = value
    if not is_number(sold, 0, _MOST_SOLD) or not isinstance(winners, tuple) or len(winners) != len(table[3]):
        return False
    return all(is_number(many, 0, _MOST_WINNERS) for many in winners)


def is_state(table, value):
    """Tell whether the value, of any kind, is a state of the table."""
    classes = table[3]
    if not isinstance(value, tuple) or len(value) != len(classes):
        return False
    return all(is_number(carried, 0, table[2] if _rolls(row) else 0) for row, carried in zip(classes, value))


def _rolls(row):
    """Tell whether a class carries something on."""
    return row[0] == "shared" and row[4] == "roll"


def start_state(table):
    """Return the state at the start."""
    return (0,) * len(table[3])


def settle(table, state, outcome):
    """Return the result of a round: prizes, what is due, the state behind it, and the change of the reserve."""
    price, rate, most, classes = table
    sold, winners = outcome
    stakes = price * sold
    due = _part_of(stakes, rate)
    prizes = []
    carried = []
    fallen = 0
    for row, kept, many in zip(classes, state, winners):
        prize, left = _settled(row, kept + _part_of(stakes, row[2]) + fallen, many)
        prizes.append(prize)
        carried.append(min(left, most) if _rolls(row) else 0)
        # What falls down ahead of a class that is not shared is kept; there it takes part in nothing.
        fallen = left if row[4] == "down" else 0
    paid = sum([prize * many for prize, many in zip(prizes, winners)])
    change = stakes + sum(state) - due - paid - sum(carried)
    return (tuple(prizes), due, tuple(carried), change)


def _part_of(stakes, rate):
    return stakes * rate[0] // rate[1]


def _settled(row, pot, many):
    """Return what each of so many winners of a class is paid, and what is left of the pot then."""
    money, cap = row[1], row[3]
    if many == 0:
        return (0, pot)
    if row[0] == "fixed":
        return (money, 0)
    pot = max(pot, money)
    prize = pot // many if cap == 0 else min(pot // many, cap)
    return (prize, pot - prize * many)
