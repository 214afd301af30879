"""Drawing below a bound, and picks drawn from seeds (points 112 to 114 and 121)."""

from lotshown.errors import OutOfRange, Refused
from lotshown.games import many
from lotshown.names import is_number
from lotshown.parts import made
from lotshown.ranks import pick_of
from lotshown.streams import first_digits
from lotshown.sums import to_power

_MOST_BOUND = 10 ** 15
_MOST_DIGITS = 64
_MOST_TRIES = 64
_PICK_TRIES = 16


def is_manner(value):
    """Tell whether the value, of any kind, is a manner."""
    if not isinstance(value, tuple) or len(value) != 3:
        return False
    kind, m, tries = value
    if kind not in ("mod", "scale", "again") or not is_number(m, 1, _MOST_DIGITS):
        return False
    return is_number(tries, 1, _MOST_TRIES if kind == "again" else 1)


def is_bound(value):
    """Tell whether the value, of any kind, is a number below which can be drawn."""
    return is_number(value, 1, _MOST_BOUND)


def check_bound(n):
    """Raise OutOfRange if nothing can be drawn below n."""
    if not is_bound(n):
        raise OutOfRange("a bound is from 1 to 10^15")


def draw_below(n, manner, base, row):
    """Return what is drawn below n, and the number of the digits that were read."""
    check_bound(n)
    return read_below(n, manner, base, row, 0)


def read_below(n, manner, base, row, at):
    """Return what is drawn below n by the digits from a place on, and the place behind them."""
    if n == 1:
        return (0, at)
    kind, m, tries = manner
    whole = to_power(base, m)
    if kind == "scale":
        return (_number_at(row, at, m, base) * n // whole, at + m)
    level = whole - whole % n
    for left in range(tries, 0, -1):
        number = _number_at(row, at, m, base)
        at = at + m
        # The last try, by "mod" the only one, takes any number.
        if left == 1 or number < level:
            break
    return (number % n, at)


def _number_at(row, at, m, base):
    if at + m > len(row):
        raise Refused("the row is too short")
    number = 0
    for digit in row[at:at + m]:
        number = number * base + digit
    return number


def chance_below(n, manner, base, result):
    """Return the chance of a result of drawing below n."""
    check_bound(n)
    if not 0 <= result < n:
        return (0, 1)
    return made(weight_between(n, manner, base, result, result + 1), whole_below(n, manner, base))


def whole_below(n, manner, base):
    """Return what the weights of all results of drawing below n come to."""
    kind, m, tries = manner
    whole = to_power(base, m)
    return n * to_power(whole, tries) if kind == "again" else whole


def weight_between(n, manner, base, low, high):
    """Return the weight of the results from low on and below high, a part of the whole of all results."""
    kind, m, tries = manner
    whole = to_power(base, m)
    rest = whole % n
    if kind == "scale":
        return _least_number(n, whole, high) - _least_number(n, whole, low)
    favoured = min(high, rest) - min(low, rest)
    if kind == "mod":
        return whole // n * (high - low) + favoured
    if rest == 0:
        return to_power(whole, tries) * (high - low)
    # All tries but the last one give each result equally often, and the last one those below the rest.
    lost = to_power(rest, tries - 1)
    return (to_power(whole, tries) - lost * rest) * (high - low) + lost * n * favoured


def _least_number(n, whole, result):
    """Return the least number that is scaled to the result or a greater one."""
    return -(-result * whole // n)


def unfairness(n, manner, base):
    """Return half the sum of what the chances of all results differ from equal ones."""
    check_bound(n)
    kind, m, tries = manner
    whole = to_power(base, m)
    rest = whole % n
    if kind == "again":
        return made(to_power(rest, tries) * (n - rest), to_power(whole, tries) * n)
    return made(rest * (n - rest), n * whole)


def drawn(game, seed):
    """Return the pick that is drawn from a seed for a game."""
    picks = many(game)
    m = max(1, -(-(picks - 1).bit_length() // 8))
    row = first_digits(seed, 256, m * _PICK_TRIES)
    number, _ = draw_below(picks, ("again", m, _PICK_TRIES), 256, row)
    return pick_of(game, number)
