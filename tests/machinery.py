"""Machines for the tests, and plain ways to reckon what the package reckons."""

from fractions import Fraction
from itertools import product

HALVES = (("chance", (1, 2)), ("end", 0), ("end", 1))
# The example of the document.
EXAMPLE = (("chance", (1, 2)), ("choice", (3, 4), (0, 1)), ("end", 1), ("end", 0), ("chance", (5, 6)), ("end", 0), ("end", 1))


def payoffs_of(*amounts):
    return tuple(amounts) + (0,) * (64 - len(amounts))


def told_of(*pairs):
    return tuple(pairs) + ((0, 1),) * (64 - len(pairs))


def random_machine(chance, size, results, most_price=0, ways=3):
    """Return a machine in which each node may lead to any later one."""
    nodes = []
    for at in range(size):
        word = chance.choice(("chance", "choice", "choice", "end")) if 0 < at < size - 1 else "choice"
        if word == "end" or at == size - 1:
            nodes.append(("end", chance.choice(results)))
            continue
        nexts = tuple(chance.randint(at + 1, min(size - 1, at + 5)) for _ in range(chance.randint(1, ways)))
        if word == "chance":
            nodes.append(("chance", nexts))
        else:
            prices = tuple(chance.choice((0, chance.randint(0, most_price))) for _ in nexts)
            nodes.append(("choice", nexts, prices))
    return tuple(nodes)


def all_plans(machine):
    return list(product(*[range(len(node[1])) if node[0] == "choice" else (-1,) for node in machine]))


def plain_chances(machine, plan):
    """Return the chances of 64 results by going through all courses."""
    told = [Fraction(0)] * 64
    waiting = [(0, Fraction(1))]
    while waiting:
        at, chance = waiting.pop()
        node = machine[at]
        if node[0] == "end":
            told[node[1]] += chance
            continue
        nexts = node[1] if node[0] == "chance" else (node[1][plan[at]],)
        waiting.extend((after, chance / len(nexts)) for after in nexts)
    return told


def plain_paid(machine, plan, at=0):
    """Return what the plan pays on the average."""
    node = machine[at]
    if node[0] == "end":
        return Fraction(0)
    if node[0] == "choice":
        return node[2][plan[at]] + plain_paid(machine, plan, node[1][plan[at]])
    return sum(plain_paid(machine, plan, after) for after in node[1]) / Fraction(len(node[1]))


def plain_earned(machine, plan, payoffs):
    return sum(a * b for a, b in zip(plain_chances(machine, plan), payoffs) if a) - plain_paid(machine, plan)


def pair(fraction):
    """Return a fraction as the package writes it."""
    fraction = Fraction(fraction)
    return (fraction.numerator, fraction.denominator)


def tree(machine, at=0):
    node = machine[at]
    if node[0] == "end":
        return node
    return (node[0], tuple(tree(machine, after) for after in node[1])) + node[2:]


def plain_trimmed(machine):
    """Return the trimmed machine by going through all ways from the start."""
    farthest = {}
    waiting = [(0, 0)]
    while waiting:
        at, steps = waiting.pop()
        one = tree(machine, at)
        farthest[one] = max(steps, farthest.get(one, 0))
        if machine[at][0] != "end":
            waiting.extend((after, steps + 1) for after in machine[at][1])
    order = [tree(machine)]
    for steps in range(1, max(farthest.values()) + 1):
        met = []
        for one in order:
            if one[0] != "end":
                met.extend(after for after in one[1] if after not in met)
        order.extend(one for one in met if farthest[one] == steps)
    numbers = {one: number for number, one in enumerate(order)}
    return tuple(one if one[0] == "end" else (one[0], tuple(numbers[after] for after in one[1])) + one[2:] for one in order)
