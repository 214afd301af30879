"""Whether a reserve is enough for all courses of a program (points 136 to 141)."""

from lotshown.errors import TooMuch
from lotshown.names import ascends
from lotshown.plain import is_amount, is_row
from lotshown.prizes import is_outcome, is_state, is_table, settle, start_state

_MOST_OUTCOMES = 12
_MOST_STATES = 2000


def is_program(value):
    """Tell whether the value, of any kind, is a program, with however many states."""
    return is_row(value, 2) and is_table(value[0]) and _are_outcomes(value[0], value[1])


def _are_outcomes(table, value):
    if not isinstance(value, tuple) or not 1 <= len(value) <= _MOST_OUTCOMES:
        return False
    return all(is_outcome(table, outcome) for outcome in value) and ascends(value)


def reached(program):
    """Return the ascending list of the states of the program."""
    return sorted(_graph(program)[0])


def _graph(program):
    """Return the states, for each its steps, and for each the state and the place that first led to it.

    The start has the number 0. A step, one for each outcome, is a pair: the number of the state
    behind the round, and the change.
    """
    table, outcomes = program
    states = [start_state(table)]
    numbers = {states[0]: 0}
    steps = []
    origins = [None]
    while len(steps) < len(states):
        at = len(steps)
        row = []
        for place, outcome in enumerate(outcomes):
            _, _, state, change = settle(table, states[at], outcome)
            if state not in numbers:
                numbers[state] = len(states)
                states.append(state)
                origins.append((at, place))
            row.append((numbers[state], change))
        if len(states) > _MOST_STATES:
            raise TooMuch("the program has more than 2000 states")
        steps.append(row)
    return states, steps, origins


def _needs(steps):
    """Return the least needs, the places by which they come about, and None, or a state on a loop that loses.

    Each need is raised as long as a step asks for more. A place is None where nothing is needed.
    """
    into = _turned(steps)
    needs = [0] * len(steps)
    places = [None] * len(steps)
    raised = list(range(len(steps)))
    while raised:
        risen = {}
        for after in raised:
            for at, place, change in into[after]:
                if needs[after] - change > needs[at]:
                    needs[at] = needs[after] - change
                    places[at] = place
                    risen[at] = True
        # Where the places lead around, each turn asks for more: the changes come to less than 0.
        looped = _on_loop(steps, places)
        if looped is not None:
            return needs, places, looped
        raised = list(risen)
    return needs, places, None


def _turned(steps):
    """List for each state the steps that lead to it, each with the state and the place from which it comes."""
    into = [[] for _ in steps]
    for at, row in enumerate(steps):
        for place, (after, change) in enumerate(row):
            into[after].append((at, place, change))
    return into


def _on_loop(steps, places):
    """Return a state to which the places lead back from itself, or None."""
    walks = [None] * len(steps)
    for first in range(len(steps)):
        at = first
        while at is not None and walks[at] is None:
            walks[at] = first
            at = None if places[at] is None else steps[at][places[at]][0]
        if at is not None and walks[at] == first:
            return at
    return None


def least_reserve(program):
    """Return the least reserve that is enough, or None if there is a loss."""
    needs, _, looped = _needs(_graph(program)[1])
    return needs[0] if looped is None else None


def made_book(program):
    """Return the book of all states with their least needs, or None if there is a loss."""
    states, steps, _ = _graph(program)
    needs, _, looped = _needs(steps)
    return sorted(list(zip(states, needs))) if looped is None else None


def made_loss(program):
    """Return a loss, or None if there is a book that holds."""
    _, steps, origins = _graph(program)
    _, places, looped = _needs(steps)
    if looped is None:
        return None
    outcomes = program[1]
    loop = [outcomes[places[looped]]]
    at = steps[looped][places[looped]][0]
    while at != looped:
        loop.append(outcomes[places[at]])
        at = steps[at][places[at]][0]
    return (_way(outcomes, origins, looped), loop)


def _way(outcomes, origins, at):
    """Return the outcomes that lead from the start to a state."""
    way = []
    while at != 0:
        at, place = origins[at]
        way.append(outcomes[place])
    way.reverse()
    return way


def tight_course(program):
    """Return a course that uses up the least reserve, or None if there is a loss."""
    _, steps, _ = _graph(program)
    _, places, looped = _needs(steps)
    if looped is not None:
        return None
    course = []
    at = 0
    while places[at] is not None:
        course.append(program[1][places[at]])
        at = steps[at][places[at]][0]
    return course


def holds(program, book):
    """Tell whether the value book, of any kind, is a book that holds."""
    table, outcomes = program
    if not isinstance(book, list) or not all(_is_need(table, row) for row in book):
        return False
    if not ascends([row[0] for row in book]):
        return False
    needs = {state: need for state, need in book}
    if start_state(table) not in needs:
        return False
    return all(_is_kept(table, needs, state, outcome) for state in needs for outcome in outcomes)


def _is_need(table, value):
    return is_row(value, 2) and is_state(table, value[0]) and is_amount(value[1])


def _is_kept(table, needs, state, outcome):
    """Tell whether the need of a state is enough for a round with an outcome and all that comes behind."""
    _, _, after, change = settle(table, state, outcome)
    return after in needs and needs[after] <= needs[state] + change


def loses(program, loss):
    """Tell whether the value loss, of any kind, is a loss."""
    if not is_row(loss, 2) or not all(_is_course(program, course) for course in loss):
        return False
    way, loop = loss
    state, _ = _behind(program, start_state(program[0]), way)
    # The changes of a loop without outcomes come to 0, so that it is none.
    after, change = _behind(program, state, loop)
    return after == state and change < 0


def _is_course(program, value):
    """Tell whether the value, of any kind, is a list of outcomes of the program."""
    table, outcomes = program
    return isinstance(value, list) and all(is_outcome(table, row) and row in outcomes for row in value)


def _behind(program, state, course):
    """Return the state behind a course from a state on, and what its changes come to."""
    total = 0
    for outcome in course:
        _, _, state, change = settle(program[0], state, outcome)
        total += change
    return state, total


def is_tight(program, reserve, course):
    """Tell whether the value course, of any kind, is a list of outcomes that uses up just the reserve."""
    if not _is_course(program, course):
        return False
    return _behind(program, start_state(program[0]), course)[1] == -reserve
