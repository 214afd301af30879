"""Machines of chance, of choices and of ends, and their plans (points 65, 66, 71 and 74)."""

from lotshown.names import is_number
from lotshown.parts import less, made
from lotshown.sums import is_any_fraction, total

_MOST_NODES = 3000
_MOST_NEXTS = 64
_MOST_PRICE = 10 ** 6
_RESULTS = 64
_MOST_PAYOFF = 10 ** 9


def is_machine(value):
    """Tell whether the value, of any kind, is a machine."""
    if not isinstance(value, tuple) or not 1 <= len(value) <= _MOST_NODES:
        return False
    return all(_is_node(len(value), at, node) for at, node in enumerate(value))


def _is_node(size, at, value):
    if not isinstance(value, tuple) or len(value) < 2:
        return False
    word = value[0]
    if word == "end":
        return len(value) == 2 and is_number(value[1], 0, _RESULTS - 1)
    if word == "chance":
        return len(value) == 2 and _are_nexts(size, at, value[1])
    return word == "choice" and len(value) == 3 and _are_nexts(size, at, value[1]) and _are_prices(value)


def _are_nexts(size, at, value):
    if not isinstance(value, tuple) or not 1 <= len(value) <= _MOST_NEXTS:
        return False
    return all(is_number(after, at + 1, size - 1) for after in value)


def _are_prices(node):
    _, nexts, prices = node
    if not isinstance(prices, tuple) or len(prices) != len(nexts):
        return False
    return all(is_number(price, 0, _MOST_PRICE) for price in prices)


def is_plan(machine, value):
    """Tell whether the value, of any kind, is a plan of the machine."""
    if not isinstance(value, tuple) or len(value) != len(machine):
        return False
    return all(_is_taken(node, place) for node, place in zip(machine, value))


def _is_taken(node, place):
    if node[0] == "choice":
        return is_number(place, 0, len(node[1]) - 1)
    return is_number(place, -1, -1)


def is_payoffs(value):
    """Tell whether the value, of any kind, is payoffs."""
    if not isinstance(value, tuple) or len(value) != _RESULTS:
        return False
    return all(is_number(payoff, -_MOST_PAYOFF, _MOST_PAYOFF) for payoff in value)


def is_told(value):
    """Tell whether the value, of any kind, is told chances."""
    if not isinstance(value, tuple) or len(value) != _RESULTS:
        return False
    if not all(is_any_fraction(chance) and not less(chance, (0, 1)) for chance in value):
        return False
    return total(list(value)) == (1, 1)


def nexts_of(node):
    """Return the next nodes of a node, none for an end."""
    return () if node[0] == "end" else node[1]


def _distances(machine):
    """List for each node the most steps of a way from the start to it, or None if there is no way."""
    distances = [None] * len(machine)
    distances[0] = 0
    for at, node in enumerate(machine):
        if distances[at] is not None:
            for after in nexts_of(node):
                if distances[after] is None or distances[after] <= distances[at]:
                    distances[after] = distances[at] + 1
    return distances


def results(machine):
    """Return the ascending list of the results of the machine."""
    distances = _distances(machine)
    ends = [node[1] for node, steps in zip(machine, distances) if node[0] == "end" and steps is not None]
    return sorted(set(ends))


def honest_plan(machine):
    """Return the plan that takes the place 0 at each choice."""
    return tuple([0 if node[0] == "choice" else -1 for node in machine])


def followed(machine, plan):
    """Return the machine in which each choice has nothing but the place that the plan takes."""
    return tuple([
        ("choice", node[1][place:place + 1], node[2][place:place + 1]) if node[0] == "choice" else node
        for node, place in zip(machine, plan)
    ])


def chances(machine, plan):
    """Return for each of the 64 results the chance that it has by the plan."""
    arriving = [[] for _ in machine]
    arriving[0].append((1, 1))
    ending = [[] for _ in range(_RESULTS)]
    for at, node in enumerate(followed(machine, plan)):
        if arriving[at]:
            chance = total(arriving[at])
            if node[0] == "end":
                ending[node[1]].append(chance)
            else:
                share = made(chance[0], chance[1] * len(node[1]))
                for after in node[1]:
                    arriving[after].append(share)
    return tuple([total(row) for row in ending])


def trimmed(machine):
    """Return the machine that has one node for each tree of a node that can be reached."""
    keys, trees = _grown(machine)
    order = _ordered(keys, trees, _distances(machine))
    numbers = {tree: number for number, tree in enumerate(order)}
    return tuple([_renamed(keys[tree], numbers) for tree in order])


def _grown(machine):
    """Return the different trees, with trees as their nexts, and the list of the trees of the nodes."""
    numbers = {}
    trees = [0] * len(machine)
    for at in range(len(machine) - 1, -1, -1):
        # A tree is named by a number, so that equal trees are found without going through them.
        trees[at] = numbers.setdefault(_renamed(machine[at], trees), len(numbers))
    return list(numbers), trees


def _renamed(node, numbers):
    """Return the node with the numbers that its nexts have."""
    if node[0] == "end":
        return node
    return (node[0], tuple([numbers[after] for after in node[1]])) + node[2:]


def _ordered(keys, trees, distances):
    """List the trees that can be reached by their greatest distances, and as they are first met."""
    farthest = {}
    for tree, steps in zip(trees, distances):
        if steps is not None:
            farthest[tree] = max(steps, farthest.get(tree, 0))
    met = {trees[0]: True}
    waiting = {0: [trees[0]]}
    order = []
    for steps in range(len(farthest)):
        # All nodes ahead of a tree are nearer, so that by now all trees of this distance were met.
        row = waiting.get(steps, [])
        order.extend(row)
        for tree in row:
            for after in nexts_of(keys[tree]):
                if after not in met:
                    met[after] = True
                    waiting.setdefault(farthest[after], []).append(after)
    return order
