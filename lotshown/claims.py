"""Claims of tickets, and what comes of them (points 165 to 171)."""

from lotshown.digest import check_width, is_seal
from lotshown.names import is_name, is_number
from lotshown.octets import of_text
from lotshown.plain import is_row
from lotshown.promises import is_salt, opens

_MOST_NUMBER = 999999
_MOST_TIME = 10 ** 9
_MOST_WAIT = 10 ** 6
_MOST_WIDTH = 32
_MOST_EVENTS = 60
_NAMED_WORDS = ("claim", "pass")
_BEARER_WORDS = ("show", "lost", "take", "yield", "rule")


def is_ticket(width, value):
    """Tell whether the value, of any kind, is a ticket with digests of the width."""
    check_width(width)
    if not is_row(value, 3):
        return False
    number, kind, holder = value
    if not is_number_of_ticket(number):
        return False
    if kind == "named":
        return is_name(holder)
    return kind == "bearer" and is_row(holder, 2) and all(is_seal(width, mark) for mark in holder)


def is_number_of_ticket(value):
    """Tell whether the value, of any kind, is the number of a ticket."""
    return is_number(value, 0, _MOST_NUMBER)


def is_time(value):
    """Tell whether the value, of any kind, is a time."""
    return is_number(value, 0, _MOST_TIME)


def is_terms(value):
    """Tell whether the value, of any kind, is terms."""
    if not is_row(value, 4):
        return False
    width, opening, closes, wait = value
    if not is_number(width, 1, _MOST_WIDTH) or not is_time(opening) or not is_time(closes):
        return False
    return opening < closes and is_number(wait, 1, _MOST_WAIT) and is_time(closes + wait)


def is_claims(value):
    """Tell whether the value, of any kind, is a list of events."""
    if not isinstance(value, list) or len(value) > _MOST_EVENTS or not all(is_event(event) for event in value):
        return False
    return all(value[at][0] <= value[at + 1][0] for at in range(len(value) - 1))


def is_event(value):
    """Tell whether the value, of any kind, is an event."""
    if not is_row(value, 4):
        return False
    time, word, name, more = value
    if not is_time(time) or not is_name(name):
        return False
    if word == "pass":
        return is_name(more)
    if word in ("show", "lost"):
        return is_salt(more)
    return word in ("claim", "take", "yield", "rule") and more is None


def slip_value(number):
    """Return the octets that a slip promises."""
    return of_text(f"slip {number}")


def stub_value(number):
    """Return the octets that a stub promises."""
    return of_text(f"stub {number}")


def words(terms, ticket, prize, events, now):
    """Return the list of the words of the events."""
    return _followed(terms, ticket, prize, events)[0]


def state(terms, ticket, prize, events, now):
    """Return the state of the ticket at the time now, behind all events."""
    return aged(terms, prize, _followed(terms, ticket, prize, events)[1], now)


def _followed(terms, ticket, prize, events):
    """Return the words of the events, and the state behind the last one."""
    found = []
    standing = first_state(ticket, prize)
    for event in events:
        word, standing = told(terms, ticket, prize, standing, event)
        found.append(word)
    return found, standing


def first_state(ticket, prize):
    """Return the state of a ticket ahead of all events."""
    if prize == 0:
        return ("lapsed",)
    return ("open", ticket[2] if ticket[1] == "named" else None)


def aged(terms, prize, standing, time):
    """Return the state that time alone makes of a state up to a time."""
    _, _, closes, wait = terms
    if standing[0] == "open" and time >= closes:
        return ("lapsed",)
    if time >= closes + wait:
        if standing[0] == "reported":
            return ("lapsed",)
        if standing[0] == "contested":
            return halves(prize, standing[1], standing[2])
    return standing


def halves(prize, reporter, shower):
    """Return the state of a ticket that is paid to both of a contest."""
    return ("paid", ((reporter, prize // 2), (shower, prize - prize // 2)))


def told(terms, ticket, prize, standing, event):
    """Return the word of an event behind a state, and the state behind the event."""
    standing = aged(terms, prize, standing, event[0])
    word = _word(terms, ticket, standing, event)
    return word, _done(prize, standing, event) if word == "stands" else standing


def _word(terms, ticket, standing, event):
    """Return "stands", or the first word that tells why the event is idle."""
    if standing[0] in ("paid", "lapsed"):
        return "over"
    if event[1] not in (_NAMED_WORDS if ticket[1] == "named" else _BEARER_WORDS):
        return "kind"
    if _is_early(terms, standing, event):
        return "early"
    if _is_late(terms, standing, event):
        return "late"
    if not _fits_state(standing[0], event[1]):
        return "state"
    if not _fits_name(standing, event[1], event[2]):
        return "name"
    return "stands" if _fits_paper(terms[0], ticket, event) else "paper"


def _is_early(terms, standing, event):
    time, word = event[:2]
    _, opening, _, wait = terms
    return time < opening or word == "take" and standing[0] == "reported" and time < standing[2] + wait


def _is_late(terms, standing, event):
    time, word = event[:2]
    _, _, closes, wait = terms
    if word == "show" and standing[0] == "reported" and time >= standing[2] + wait:
        return True
    return word in ("claim", "pass", "show", "lost") and time >= closes


def _fits_state(standing, word):
    if word == "show":
        return standing in ("open", "reported")
    if word == "take":
        return standing == "reported"
    return standing == ("contested" if word in ("yield", "rule") else "open")


def _fits_name(standing, word, name):
    if word in ("claim", "pass", "take"):
        return name == standing[1]
    if word in ("yield", "rule"):
        return name in standing[1:]
    # Who shows is not the reporter; of an open bearer's ticket there is none.
    return name != standing[1]


def _fits_paper(width, ticket, event):
    number, _, holder = ticket
    if event[1] == "show":
        return opens(width, holder[0], event[3], slip_value(number))
    return event[1] != "lost" or opens(width, holder[1], event[3], stub_value(number))


def _done(prize, standing, event):
    """Return the state behind an event that stands."""
    time, word, name, more = event
    if word == "pass":
        return ("open", more)
    if word == "lost":
        return ("reported", name, time)
    if word == "show" and standing[0] == "reported":
        return ("contested", standing[1], name)
    if word == "yield":
        name = standing[2] if name == standing[1] else standing[1]
    return ("paid", ((name, prize),))
