"""What can still come of a ticket (points 173 to 175)."""

from lotshown.claims import halves, is_claims, slip_value, state, stub_value, told
from lotshown.names import is_name
from lotshown.plain import is_row
from lotshown.promises import opens

_MOST_EVENTS = 60


def is_cast(terms, ticket, events, value):
    """Tell whether the value, of any kind, is a cast."""
    if not is_row(value, 4):
        return False
    one, two, slip, stub = value
    if not is_name(one) or not is_name(two) or one == two:
        return False
    known = _names_of(ticket, events)
    return one not in known and two not in known and _are_salts(terms[0], ticket, slip, stub)


def _names_of(ticket, events):
    """List the names that a ticket and its events have had."""
    names = [ticket[2]] if ticket[1] == "named" else []
    for _, word, name, more in events:
        names.append(name)
        if word == "pass":
            names.append(more)
    return names


def _are_salts(width, ticket, slip, stub):
    """Tell whether the salts are None, or open the slip and the stub of the ticket."""
    number, kind, holder = ticket
    if kind == "named":
        return slip is None and stub is None
    if slip is not None and not opens(width, holder[0], slip, slip_value(number)):
        return False
    return stub is None or opens(width, holder[1], stub, stub_value(number))


def ends(terms, ticket, prize, events, now, cast):
    """Return the list of the ends with their prices and last times, ascending by the price and the state."""
    rows = _ways(terms, ticket, prize, events, now, cast)
    order = sorted([(len(course), end) for end, course in rows])
    firsts = {end: course[0][0] if len(course) > 0 else None for end, course in rows}
    return [(end, price, firsts[end]) for price, end in order]


def course_to(terms, ticket, prize, events, now, cast, end):
    """Return a course to the end with as few events and as late as can be, or None if it is no end."""
    for other, course in _ways(terms, ticket, prize, events, now, cast):
        if other == end:
            return course
    return None


def _ways(terms, ticket, prize, events, now, cast):
    """List the ends, each with a course to it of the fewest events that begins as late as can be."""
    standing = state(terms, ticket, prize, events, now)
    if standing[0] == "open":
        rows = _from_named(terms, prize, standing, cast) if ticket[1] == "named" else _from_open(terms, prize, cast)
    elif standing[0] == "reported":
        rows = _from_reported(terms, prize, standing, now, cast)
    elif standing[0] == "contested":
        rows = _from_contested(terms, prize, standing)
    else:
        rows = [(standing, [])]
    return rows


def _paid(name, prize):
    return ("paid", ((name, prize),))


def _from_named(terms, prize, standing, cast):
    one, holder = cast[0], standing[1]
    last = terms[2] - 1
    return [
        (("lapsed",), []),
        (_paid(holder, prize), [(last, "claim", holder, None)]),
        (_paid(one, prize), [(last, "pass", holder, one), (last, "claim", one, None)]),
    ]


def _from_open(terms, prize, cast):
    _, _, closes, wait = terms
    one, two, slip, stub = cast
    show = (closes - 1, "show", one, slip)
    lost = (closes - 1, "lost", two, stub)
    rows = [(("lapsed",), [])]
    if slip is not None:
        rows.append((_paid(one, prize), [show]))
    if stub is not None:
        rows.append((_paid(two, prize), [lost, (closes - 1 + wait, "take", two, None)]))
    if slip is not None and stub is not None:
        rows.append((halves(prize, two, one), [lost, show]))
    return rows


def _from_reported(terms, prize, standing, now, cast):
    _, _, closes, wait = terms
    _, reporter, since = standing
    one, slip = cast[0], cast[2]
    last = closes + wait - 1
    rows = [(("lapsed",), []), (_paid(reporter, prize), [(last, "take", reporter, None)])]
    before = min(closes, since + wait)
    if slip is not None and now < before:
        show = (before - 1, "show", one, slip)
        rows.append((halves(prize, reporter, one), [show]))
        rows.append((_paid(one, prize), [show, (last, "rule", one, None)]))
    return rows


def _from_contested(terms, prize, standing):
    _, _, closes, wait = terms
    _, reporter, shower = standing
    last = closes + wait - 1
    rows = [(halves(prize, reporter, shower), [])]
    return rows + [(_paid(name, prize), [(last, "rule", name, None)]) for name in (reporter, shower)]


def is_course(terms, ticket, prize, events, now, cast, value):
    """Tell whether the value, of any kind, is a course."""
    if not is_claims(value) or len(events) + len(value) > _MOST_EVENTS:
        return False
    standing = state(terms, ticket, prize, events, now)
    for event in value:
        if event[0] < now or not _is_of_cast(cast, event):
            return False
        word, standing = told(terms, ticket, prize, standing, event)
        if word != "stands":
            return False
    return True


def _is_of_cast(cast, event):
    """Tell whether an event, if it stands, is one that a course may have."""
    one, two, slip, stub = cast
    _, word, name, more = event
    if word == "pass":
        return more == one
    if word == "show":
        return name == one and more == slip
    return word != "lost" or name == two and more == stub
