"""Whether two tables pay the same, and the chance that a reserve fails (points 142 to 144)."""

from lotshown.errors import Refused, TooMuch
from lotshown.parts import made
from lotshown.prizes import settle, start_state
from lotshown.sums import to_power

_MOST_STATES = 2000
_MOST_PAIRS = 3000


def first_parting(one, other, outcomes):
    """Return the least of the shortest courses behind which a prize or what is due differs, or None."""
    if len(one[3]) != len(other[3]):
        raise Refused("the tables have different numbers of classes")
    start = (start_state(one), start_state(other))
    met = {start: True}
    # The pairs stand in the order of the least courses to them, so that what parts first is the least.
    level = [(start, ())]
    while level:
        behind = []
        for states, course in level:
            for outcome in outcomes:
                mine = settle(one, states[0], outcome)
                yours = settle(other, states[1], outcome)
                if mine[:2] != yours[:2]:
                    return list(course) + [outcome]
                after = (mine[2], yours[2])
                if after not in met:
                    met[after] = True
                    behind.append((after, course + (outcome,)))
        if len(met) > _MOST_STATES:
            raise TooMuch("more than 2000 pairs of states can be reached")
        level = behind
    return None


def failing(program, weights, reserve, rounds):
    """Return the chance that the reserve fails within so many rounds."""
    table, outcomes = program
    likely = [(outcome, weight) for outcome, weight in zip(outcomes, weights) if weight > 0]
    whole = sum(weights)
    moves = {}
    ways = {(start_state(table), reserve): 1}
    failed = 0
    for _ in range(rounds):
        if len(ways) > _MOST_PAIRS:
            raise TooMuch("more than 3000 pairs of a state and a reserve are possible")
        ways, lost = _one_round(table, likely, moves, ways)
        failed = failed * whole + lost
    return made(failed, to_power(whole, rounds))


def _one_round(table, likely, moves, ways):
    """Return the ways that do not fail in one more round, by state and reserve, and the weight of those that do.

    What rounds from a state lead to is kept in moves, as many reserves share a state.
    """
    behind = {}
    lost = 0
    for state, reserve in ways:
        if state not in moves:
            moves[state] = [settle(table, state, outcome)[2:] + (weight,) for outcome, weight in likely]
        for after, change, weight in moves[state]:
            more = ways[(state, reserve)] * weight
            if reserve + change < 0:
                lost += more
            else:
                pair = (after, reserve + change)
                behind[pair] = behind.get(pair, 0) + more
    return behind, lost
