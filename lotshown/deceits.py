"""The best deceits of a coalition, and plans played on values (points 93 and 94)."""

from lotshown.errors import Malformed, TooMuch
from lotshown.fair import payoffs_of
from lotshown.names import is_number
from lotshown.parts import made
from lotshown.schemes import last_draw, machine_of, opens_late
from lotshown.sums import to_power
from lotshown.values import earned, made_plan

_MOST_VALUES = 3000


def best_deceit(scheme, coalition, wanted):
    """Return the best plan to bring about a wanted result, and the chance that it reaches."""
    machine = machine_of(with_stake(scheme, 0), coalition)
    payoffs = payoffs_of(wanted)
    plan = made_plan(machine, payoffs)
    return (plan, earned(machine, plan, payoffs))


def with_stake(scheme, stake):
    """Return the scheme with another stake, if it has one."""
    way, size, order, rest = scheme
    return (way, size, order, (rest[0], stake)) if way == "again" else scheme


def play(scheme, coalition, plan, values):
    """Return the record and the result of a plan that is played on values."""
    if not _are_values(scheme, values):
        raise Malformed("these are no values for the scheme")
    return _played(scheme, coalition, machine_of(scheme, coalition), plan, values)


def _are_values(scheme, value):
    draws = last_draw(scheme) + 1
    late = 1 if scheme[0] == "beacon" else 0
    if not isinstance(value, list) or len(value) != draws + late:
        return False
    if late == 1 and not is_number(value[-1], 0, scheme[1] - 1):
        return False
    return all(_are_values_of_draw(scheme, row) for row in value[:draws])


def _are_values_of_draw(scheme, value):
    if not isinstance(value, tuple) or len(value) != len(scheme[2]):
        return False
    return all(is_number(number, 0, scheme[1] - 1) for number in value)


def _played(scheme, coalition, machine, plan, values):
    deeds = []
    node = 0
    for draw in range(last_draw(scheme) + 1):
        node, withheld, void = _draw_played(scheme, coalition, (machine, plan, node), (draw, values[draw]), deeds)
        if not void:
            node = _opened(scheme, coalition, (machine, plan, node), withheld, deeds)
            if scheme[0] == "beacon":
                node = machine[node][1][values[-1]]
                deeds.append(("beacon", values[-1]))
            break
    return (deeds, machine[node][1])


def _draw_played(scheme, coalition, course, turn, deeds):
    """Go through one draw, note its deeds, and return the node, what was withheld, and whether the draw is void."""
    machine, plan, node = course
    draw, values = turn
    withheld = []
    for member in coalition:
        node = machine[node][1][values[member]]
    for party in scheme[2]:
        place = plan[node] if party in coalition else values[party]
        silent = party in coalition and place == 1
        node = machine[node][1][place]
        deeds.append(("withholds", party) if silent else ("reveals", party, values[party]))
        if silent and draw < last_draw(scheme):
            deeds.append(("void",))
            return node, [], True
        if silent:
            withheld.append((party, values[party]))
    return node, sorted(withheld), False


def _opened(scheme, coalition, course, withheld, deeds):
    """Note which withheld values are opened at the end, and return the node behind."""
    machine, plan, node = course
    if scheme[0] != "shares":
        return node
    for party, value in withheld:
        place = 0
        if opens_late(scheme, coalition):
            place = plan[node]
            node = machine[node][1][place]
        if place == 0:
            deeds.append(("opened", party, value))
    return node


def counted(scheme, coalition, plan, wanted):
    """Return the part of all values for which the plan, played, has a wanted result."""
    way, size, order, _ = scheme
    numbers = len(order) * (last_draw(scheme) + 1) + (1 if way == "beacon" else 0)
    many = to_power(size, numbers)
    if many > _MOST_VALUES:
        raise TooMuch("there are more than 3000 values")
    machine = machine_of(scheme, coalition)
    met = 0
    for number in range(many):
        values = _values_of(scheme, number, numbers)
        if _played(scheme, coalition, machine, plan, values)[1] in wanted:
            met += 1
    return made(met, many)


def _values_of(scheme, number, numbers):
    """Return the values with a number, if all values are numbered."""
    way, size, order, _ = scheme
    row = []
    for _ in range(numbers):
        number, value = divmod(number, size)
        row.append(value)
    n = len(order)
    values = [tuple(row[n * draw:n * draw + n]) for draw in range(last_draw(scheme) + 1)]
    return values + [row[-1]] if way == "beacon" else values
