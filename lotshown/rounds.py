"""Courses of rounds, and what they leave of a reserve (points 134 and 135)."""

from lotshown.prizes import settle, start_state


def play(table, course):
    """Return the list of the results of a course."""
    results = []
    state = start_state(table)
    for outcome in course:
        result = settle(table, state, outcome)
        results.append(result)
        state = result[2]
    return results


def reserves(table, course, reserve):
    """Return the list of what the reserve is behind each round, up to the one in which the course fails."""
    rows = []
    left = reserve
    for result in play(table, course):
        left = left + result[3]
        rows.append(left)
        if left < 0:
            break
    return rows


def paid(table, course):
    """Return what all winners of all rounds are paid together."""
    amount = 0
    for result, outcome in zip(play(table, course), course):
        amount += sum([prize * many for prize, many in zip(result[0], outcome[1])])
    return amount
