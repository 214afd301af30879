"""Papers that show a bound, or a worth (points 69 and 70)."""

from lotshown.machines import is_plan
from lotshown.parts import less, made, minus
from lotshown.sums import is_any_fraction, total
from lotshown.values import earned


def shows_bound(machine, payoffs, bound, paper):
    """Tell whether the value paper, of any kind, shows the bound."""
    if not isinstance(paper, tuple) or len(paper) != len(machine):
        return False
    if not all(is_any_fraction(amount) for amount in paper) or less(bound, paper[0]):
        return False
    return all(_bounds(node, payoffs, paper, amount) for node, amount in zip(machine, paper))


def _bounds(node, payoffs, paper, amount):
    """Tell whether the amount of a node is not less than what comes behind it allows."""
    if node[0] == "end":
        return not less(amount, (payoffs[node[1]], 1))
    behind = [paper[after] for after in node[1]]
    if node[0] == "chance":
        part, whole = total(behind)
        return not less(amount, made(part, whole * len(behind)))
    return not any(less(amount, minus(other, (price, 1))) for other, price in zip(behind, node[2]))


def shows_worth(machine, payoffs, amount, plan, paper):
    """Tell whether the values plan and paper, of any kinds, show the worth."""
    if not is_plan(machine, plan) or not shows_bound(machine, payoffs, amount, paper):
        return False
    return earned(machine, plan, payoffs) == amount
