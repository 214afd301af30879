"""Fairness, the gain over told chances, and stakes against deceit (points 71 to 73)."""

from lotshown.errors import Refused, TooMuch
from lotshown.machines import honest_plan, results, trimmed
from lotshown.parts import less, made, minus, through, times
from lotshown.scaled import steps, wholes, worths
from lotshown.sums import total
from lotshown.values import earned, made_plan, worth

_MOST_RESULTS = 10
_RESULTS = 64


def is_fair(machine, told):
    """Tell whether by each plan each result has its told chance."""
    _check_free(machine)
    rows = [(result,) for result in results(machine)]
    return not any(less(told[row[0]], chance) for row, chance in zip(rows, _greatest_chances(machine, rows)))


def _check_free(machine):
    """Raise Refused if a price is not 0."""
    if any(price != 0 for node in machine for price in _prices_of(node)):
        raise Refused("a price is not 0")


def _prices_of(node):
    return node[2] if node[0] == "choice" else ()


def _greatest_chances(machine, rows):
    """List for each set of results the greatest chance, over all plans, that the result is in it."""
    trim = trimmed(machine)
    scales = wholes(trim)
    ways = steps(trim, scales)
    return [made(worths(ways, payoffs_of(row))[0], scales[0]) for row in rows]


def payoffs_of(row):
    """Return the payoffs that are 1 for the results of a tuple, and 0 for all others."""
    return tuple([1 if result in row else 0 for result in range(_RESULTS)])


def gain(machine, told):
    """Return the gain of the machine over the told chances, and the made set."""
    _check_free(machine)
    found = results(machine)
    if len(found) > _MOST_RESULTS:
        raise TooMuch("there are more than 10 results")
    rows = [()]
    for result in found:
        rows = rows + [row + (result,) for row in rows]
    rows = sorted(rows)
    # The empty set, which is the least one, has the difference 0.
    best = ((0, 1), ())
    for row, chance in zip(rows, _greatest_chances(machine, rows)):
        more = minus(chance, total([told[result] for result in row]))
        if less(best[0], more):
            best = (more, row)
    return best


def is_proof(machine, payoffs):
    """Tell whether no plan earns more than the honest one."""
    return worth(machine, payoffs) == earned(machine, honest_plan(machine), payoffs)


def least_stake(machine, payoffs):
    """Return the least number by which all prices are to be multiplied to be proof against deceit, or None."""
    if any(node[2][0] != 0 for node in machine if node[0] == "choice"):
        raise Refused("the price at the place 0 of a choice is not 0")
    free = _priced(machine, 0)
    honest = earned(free, honest_plan(machine), payoffs)
    stake = (0, 1)
    while True:
        plan = _best_plan(machine, payoffs, stake)
        gross = earned(free, plan, payoffs)
        more = minus(gross, honest)
        cost = minus(gross, earned(machine, plan, payoffs))
        if not less(times(stake, cost), more):
            return stake
        if cost == (0, 1):
            return None
        # The stake must be at least so great for this plan alone.
        stake = through(more, cost)


def _priced(machine, factor):
    """Return the machine with all prices multiplied by an integer."""
    return tuple([
        ("choice", node[1], tuple([price * factor for price in node[2]])) if node[0] == "choice" else node
        for node in machine
    ])


def _best_plan(machine, payoffs, stake):
    # A stake of part through whole is the same as payoffs times the whole and prices times the part.
    part, whole = stake
    return made_plan(_priced(machine, part), tuple([payoff * whole for payoff in payoffs]))
