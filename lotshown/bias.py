"""The tables of draws, how far they are from ideal ones, and how many digits are enough (points 117 to 120)."""

from lotshown.errors import Refused, TooMuch
from lotshown.parts import less, made
from lotshown.picks import unfairness, weight_between, whole_below
from lotshown.shuffles import bounds_of, most_read, play, positives, result_of
from lotshown.sums import common_whole

_MOST_COURSES = 3000
_MOST_ROWS = 5000
_MOST_DIGITS = 64
_MOST_TRIES = 64
# One digit whose base is the bound itself draws with equal chances.
_EVEN_MANNER = ("mod", 1, 1)


def table(draw):
    """Return the dict of the chances of all results that have one."""
    recipe, manner, base = draw
    return _table(recipe, manner, base)


def ideal(recipe):
    """Return the table in which all drawings below a bound have equal chances."""
    return _table(recipe, _EVEN_MANNER, None)


def size_of(recipe):
    """Return the number of the courses of a recipe."""
    if recipe[0] == "weights":
        many = positives(recipe[1])
        factors = [many - at for at in range(recipe[2])]
    else:
        factors = bounds_of(recipe)
    size = 1
    for factor in factors:
        size = size * factor
    return size


def _table(recipe, manner, base):
    if size_of(recipe) > _MOST_COURSES:
        raise TooMuch("the recipe has more than 3000 courses")
    by_weights = recipe[0] == "weights"
    shares = _weights_shares(recipe, manner, base) if by_weights else _plain_shares(recipe, manner, base)
    # Many results have the same share, and to reduce great ones takes long.
    chances = {}
    for result in shares:
        share = shares[result]
        if share not in chances:
            chances[share] = made(share[0], share[1])
    return {result: chances[shares[result]] for result in shares}


def _plain_shares(recipe, manner, base):
    """Return a dict of all results with pairs (weight, whole), for a recipe that is not by weights."""
    whole = 1
    rows = [((), 1)]
    for bound in bounds_of(recipe):
        digit_base = bound if base is None else base
        whole = whole * whole_below(bound, manner, digit_base)
        steps = [(r, weight_between(bound, manner, digit_base, r, r + 1)) for r in range(bound)]
        rows = [(numbers + (r,), weight * more) for numbers, weight in rows for r, more in steps if more > 0]
    weights = {}
    for numbers, weight in rows:
        result = result_of(recipe, numbers)
        weights[result] = weights.get(result, 0) + weight
    return {result: (weights[result], whole) for result in weights}


def _weights_shares(recipe, manner, base):
    """Return the same for a recipe by weights, in which each result has just one course."""
    _, weights, k = recipe
    shares = {(): (1, 1)}
    for _ in range(k):
        longer = {}
        for taken in shares:
            left = [0 if at in taken else one for at, one in enumerate(weights)]
            for index, weight, whole in _steps(left, manner, base):
                longer[taken + (index,)] = (shares[taken][0] * weight, shares[taken][1] * whole)
        shares = longer
    return shares


def _steps(left, manner, base):
    """List the indexes that can be drawn next, each with its weight and the whole of all."""
    bound = sum(left)
    digit_base = bound if base is None else base
    whole = whole_below(bound, manner, digit_base)
    steps = []
    low = 0
    for index, weight in enumerate(left):
        part = weight_between(bound, manner, digit_base, low, low + weight)
        low += weight
        if part > 0:
            steps.append((index, part, whole))
    return steps


def distance(one, other):
    """Return half the sum of what the chances of all results differ in two tables."""
    wholes = [one[result][1] for result in one] + [other[result][1] for result in other]
    whole = common_whole(sorted(set(wholes)))
    differences = {result: one[result][0] * (whole // one[result][1]) for result in one}
    for result in other:
        part, below = other[result]
        differences[result] = differences.get(result, 0) - part * (whole // below)
    return made(sum([abs(differences[result]) for result in differences]), 2 * whole)


def is_fair(draw):
    """Tell whether the table of the draw is the ideal one of its recipe."""
    return table(draw) == ideal(draw[0])


def parting_row(one, other):
    """Return the least row on which two draws do not give the same, or None."""
    base = one[2]
    if base != other[2]:
        raise Refused("the draws do not have the same base")
    size = max(most_read(one), most_read(other))
    many = 1
    for _ in range(size):
        many = many * base
        if many > _MOST_ROWS:
            raise TooMuch("there are more than 5000 rows")
    for number in range(many):
        row = _row_of(number, base, size)
        if play(one, row)[0] != play(other, row)[0]:
            return row
    return None


def _row_of(number, base, size):
    """Return the row of so many digits that are the number."""
    digits = []
    for _ in range(size):
        number, digit = divmod(number, base)
        digits.append(digit)
    digits.reverse()
    return tuple(digits)


def least_digits(kind, tries, base, n, most):
    """Return the least number of digits with which drawing below n is not more unfair, or None."""
    for m in range(1, _MOST_DIGITS + 1):
        if not less(most, unfairness(n, (kind, m, tries), base)):
            return m
    return None


def least_tries(m, base, n, most):
    """Return the least number of tries with which drawing again below n is not more unfair, or None."""
    for tries in range(1, _MOST_TRIES + 1):
        if not less(most, unfairness(n, ("again", m, tries), base)):
            return tries
    return None
