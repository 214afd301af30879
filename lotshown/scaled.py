"""The worths of the nodes of a machine as integers, each through a whole that its node has for all payoffs.

Who reckons the worths for many payoffs needs no fractions then.
"""

from lotshown.machines import nexts_of
from lotshown.sums import common_whole


def wholes(machine):
    """List for each node a whole through which all its worths can be written."""
    row = [1] * len(machine)
    for at in range(len(machine) - 1, -1, -1):
        node = machine[at]
        common = common_whole([row[after] for after in nexts_of(node)])
        row[at] = common * len(node[1]) if node[0] == "chance" else common
    return row


def steps(machine, scales):
    """List for each node its word, and what its worth is reckoned of: its result, or a row for each next."""
    return [_step(node, whole, scales) for node, whole in zip(machine, scales)]


def _step(node, whole, scales):
    word = node[0]
    if word == "end":
        return (word, node[1])
    if word == "choice":
        return (word, [(after, whole // scales[after], price * whole) for after, price in zip(node[1], node[2])])
    counts = {}
    for after in node[1]:
        counts[after] = counts.get(after, 0) + 1
    share = whole // len(node[1])
    return (word, [(after, share // scales[after] * counts[after]) for after in counts])


def worths(rows, payoffs):
    """List the worths of all nodes, each times the whole of its node."""
    row = [0] * len(rows)
    for at in range(len(rows) - 1, -1, -1):
        word, what = rows[at]
        if word == "end":
            row[at] = payoffs[what]
        elif word == "chance":
            row[at] = sum([row[after] * factor for after, factor in what])
        else:
            row[at] = max(reached(what, row))
    return row


def reached(what, row):
    """List what each place of a choice comes to, less its price."""
    return [row[after] * factor - cost for after, factor, cost in what]
