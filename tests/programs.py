"""Programs for the tests, and what comes of them, told plainly."""

from itertools import product

from lotshown.prizes import settle, start_state
from tests.test_prizes import any_table


def counter(most):
    """Return a table whose states count up by one with each ticket sold, up to most."""
    return (1, (0, 1), most, (("shared", 0, (1, 1), 0, "roll"),))


def any_program(chance, greatest=5):
    """Return a program with a few states."""
    table = any_table(chance)
    most = chance.choice((0, 3, 12, 40))
    rows = sorted({
        (chance.choice((0, 1, 2, 10)), tuple(chance.choice((0, 0, 1, 2)) for _ in table[3]))
        for _ in range(chance.randint(1, greatest))
    })
    return ((table[0], table[1], most, table[3]), tuple(rows))


def walk(program, most=2000):
    """Return all states that can be reached, or None if they are more than most."""
    table, outcomes = program
    met, waiting = {start_state(table)}, [start_state(table)]
    while waiting and len(met) <= most:
        state = waiting.pop()
        fresh = {settle(table, state, outcome)[2] for outcome in outcomes} - met
        met |= fresh
        waiting.extend(fresh)
    return met if len(met) <= most else None


def plain_needs(program, rounds):
    """Return for each state the least reserve that is enough for so many rounds from it on."""
    table, outcomes = program
    states = walk(program)
    needs = {state: 0 for state in states}
    moves = {state: [settle(table, state, outcome)[2:] for outcome in outcomes] for state in states}
    for _ in range(rounds):
        needs = {state: max([0] + [needs[after] - change for after, change in moves[state]]) for state in states}
    return needs


def all_courses(program, rounds):
    return [list(course) for course in product(program[1], repeat=rounds)]
