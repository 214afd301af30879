"""What a coalition gains by lying, and the stake that leaves nothing of it (point 95)."""

from lotshown.deceits import with_stake
from lotshown.errors import Refused
from lotshown.fair import least_stake
from lotshown.machines import honest_plan
from lotshown.parts import minus, rounded
from lotshown.schemes import machine_of
from lotshown.values import earned, worth


def lure(scheme, coalition, payoffs):
    """Return what the coalition can earn more than by the honest plan."""
    machine = machine_of(scheme, coalition)
    return minus(worth(machine, payoffs), earned(machine, honest_plan(machine), payoffs))


def least_deterrent(scheme, coalition, payoffs):
    """Return the least integer that, as the stake, leaves no lure."""
    if scheme[0] != "again":
        raise Refused("only by the way again there is a stake")
    # With the stake 1, what multiplies the prices is the stake itself.
    machine = machine_of(with_stake(scheme, 1), coalition)
    return rounded(least_stake(machine, payoffs), "up")
