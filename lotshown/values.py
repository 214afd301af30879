"""What plans earn, and the worths of machines (points 67 and 68)."""

from lotshown.machines import followed
from lotshown.parts import made
from lotshown.scaled import reached, steps, wholes, worths


def earned(machine, plan, payoffs):
    """Return what the plan earns."""
    return worth(followed(machine, plan), payoffs)


def worth_table(machine, payoffs):
    """Return the tuple of the worths of all nodes."""
    scales = wholes(machine)
    row = worths(steps(machine, scales), payoffs)
    return tuple([made(amount, whole) for amount, whole in zip(row, scales)])


def worth(machine, payoffs):
    """Return the most that a plan earns."""
    scales = wholes(machine)
    return made(worths(steps(machine, scales), payoffs)[0], scales[0])


def made_plan(machine, payoffs):
    """Return the plan that takes at each choice the first place with the greatest worth less its price."""
    rows = steps(machine, wholes(machine))
    row = worths(rows, payoffs)
    return tuple([_first_best(what, row) if word == "choice" else -1 for word, what in rows])


def _first_best(what, row):
    amounts = reached(what, row)
    return amounts.index(max(amounts))
