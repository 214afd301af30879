"""Schemes carried out plainly, as the document tells them, for the tests."""

from itertools import combinations, product


def all_coalitions(n):
    return [some for size in range(n + 1) for some in combinations(range(n), size)]


def begin(draw):
    return (draw, 0, frozenset(), frozenset(), 0)


def node_of(scheme, coalition, state):
    """Return the word of a state's node, its nexts and its prices, where values belong to their members."""
    way, size, order, rest = scheme
    draw, place, held, late, total = state
    members, honest = len(coalition), len(order) - len(coalition)
    if place < members:
        return "chance", [(draw, place + 1, held | {(coalition[place], v)}, late, total) for v in range(size)], None
    place -= members
    if place < len(order):
        party = order[place]
        if party not in coalition:
            return "chance", [(draw, place + members + 1, held, late, (total + v) % size) for v in range(size)], None
        value = dict(held)[party]
        held = held - {(party, value)}
        reveal = (draw, place + members + 1, held, late, (total + value) % size)
        withhold = (draw, place + members + 1, held, late, total)
        if way == "again" and draw < rest[0]:
            withhold = begin(draw + 1)
        if way == "shares":
            withhold = reveal if honest >= rest[0] else withhold[:3] + (late | {(party, value)}, total)
        return "choice", [reveal, withhold], (0, rest[1] if way == "again" else 0)
    if late:
        first = min(late)
        after = (draw, place + members + 1, held, late - {first})
        return "choice", [after + ((total + first[1]) % size,), after + (total,)], (0, 0)
    if way == "beacon" and place == len(order):
        return "chance", [(draw, place + members + 1, held, late, (total + v) % size) for v in range(size)], None
    return "end", total, None


def plain_states(scheme, coalition, most):
    """Return the set of all states, or of some more than most of them."""
    met = {begin(0)}
    waiting = [begin(0)]
    while waiting and len(met) <= most:
        word, nexts, _ = node_of(scheme, coalition, waiting.pop())
        fresh = set() if word == "end" else set(nexts) - met
        met |= fresh
        waiting.extend(fresh)
    return met


def plain_order(scheme, coalition):
    """List the states by their numbers: they are numbered again and again until nothing changes."""
    order = [begin(0)]
    while True:
        met = [begin(0)]
        for state in order:
            word, nexts, _ = node_of(scheme, coalition, state)
            if word != "end":
                met.extend(nexts)
        unique = list(dict.fromkeys(met))
        unique.sort(key=lambda state: state[:2])
        if unique == order:
            return order
        order = unique


def plain_machine(scheme, coalition):
    """Return the machine of the scheme for the coalition."""
    order = plain_order(scheme, coalition)
    numbers = {state: number for number, state in enumerate(order)}
    nodes = []
    for state in order:
        word, nexts, prices = node_of(scheme, coalition, state)
        if word == "end":
            nodes.append((word, nexts))
        else:
            row = (word, tuple(numbers[after] for after in nexts))
            nodes.append(row if prices is None else row + (prices,))
    return tuple(nodes)


def plain_play(scheme, coalition, order, plan, values):
    """Return the record and the result of a plan, told by the states in their order."""
    state, deeds, withheld = begin(0), [], []
    members = len(coalition)
    while True:
        draw, place, held, late, _ = state
        word, nexts, _ = node_of(scheme, coalition, state)
        turn = place - members
        if turn == len(scheme[2]) and scheme[0] == "shares" and len(scheme[2]) - members >= scheme[3][0]:
            deeds.extend(("opened",) + pair for pair in sorted(withheld))
        if word == "end":
            return deeds, nexts
        if turn < 0:
            state = nexts[values[draw][coalition[place]]]
        elif turn < len(scheme[2]):
            party = scheme[2][turn]
            value = values[draw][party]
            if party not in coalition:
                state = nexts[value]
                deeds.append(("reveals", party, value))
                continue
            choice = plan[order.index(state)]
            state = nexts[choice]
            deeds.append(("withholds", party) if choice else ("reveals", party, value))
            if choice:
                withheld.append((party, value))
            if state[0] > draw:
                deeds.append(("void",))
                withheld = []
        elif word == "choice":
            choice = plan[order.index(state)]
            if choice == 0:
                deeds.append(("opened",) + min(late))
            state = nexts[choice]
        else:
            deeds.append(("beacon", values[-1]))
            state = nexts[values[-1]]


def all_values(scheme):
    """List all values that can be handed in to a play of the scheme."""
    way, size, order, rest = scheme
    draws = rest[0] + 1 if way == "again" else 1
    rows = [list(row) for row in product(product(range(size), repeat=len(order)), repeat=draws)]
    if way == "beacon":
        rows = [row + [value] for row in rows for value in range(size)]
    return rows
