"""Tickets and events for the tests, and what comes of them, told plainly by points 168 to 171."""

from lotshown.claims import slip_value, stub_value
from lotshown.promises import promise

SLIP_SALT = (1,) * 16
STUB_SALT = (2,) * 64
WRONG_SALT = (3,) * 20


def bearer(width, number, slip_salt=SLIP_SALT, stub_salt=STUB_SALT):
    return (number, "bearer", (promise(width, slip_salt, slip_value(number)), promise(width, stub_salt, stub_value(number))))


def plain_told(terms, ticket, prize, events, now):
    """Return the words of the events and the state at now."""
    _, opens, closes, wait = terms
    number, kind, holder = ticket
    told = []
    state = ("lapsed",) if prize == 0 else ("open", holder if kind == "named" else None)

    def pass_time(state, time):
        if time >= closes and state[0] == "open":
            state = ("lapsed",)
        if time >= closes + wait and state[0] == "reported":
            state = ("lapsed",)
        if time >= closes + wait and state[0] == "contested":
            state = ("paid", ((state[1], prize // 2), (state[2], (prize + 1) // 2)))
        return state

    for time, word, name, more in events:
        state = pass_time(state, time)
        reasons = []
        if state[0] in ("paid", "lapsed"):
            reasons.append("over")
        if (word in ("claim", "pass")) != (kind == "named"):
            reasons.append("kind")
        if time < opens or word == "take" and state[0] == "reported" and time < state[2] + wait:
            reasons.append("early")
        if word == "show" and state[0] == "reported" and time >= state[2] + wait:
            reasons.append("late")
        if word in ("claim", "pass", "show", "lost") and time >= closes:
            reasons.append("late")
        wanted = {"claim": ["open"], "pass": ["open"], "lost": ["open"], "show": ["open", "reported"], "take": ["reported"],
                  "yield": ["contested"], "rule": ["contested"]}[word]
        if state[0] not in wanted:
            reasons.append("state")
        elif word in ("claim", "pass", "take") and name != state[1]:
            reasons.append("name")
        elif word in ("yield", "rule") and name not in state[1:]:
            reasons.append("name")
        elif word == "show" and state[0] == "reported" and name == state[1]:
            reasons.append("name")
        # The salts of these tickets are known, and no other one opens anything.
        if word == "show" and more != SLIP_SALT or word == "lost" and more != STUB_SALT:
            reasons.append("paper")
        order = ["over", "kind", "early", "late", "state", "name", "paper"]
        told.append(min(reasons, key=order.index) if reasons else "stands")
        if reasons:
            continue
        if word in ("claim", "take", "rule") or word == "show" and state[0] == "open":
            state = ("paid", ((name, prize),))
        elif word == "yield":
            state = ("paid", (([other for other in state[1:] if other != name][0], prize),))
        elif word == "pass":
            state = ("open", more)
        elif word == "lost":
            state = ("reported", name, time)
        else:
            state = ("contested", state[1], name)
    return told, pass_time(state, now)


def any_events(chance, kind, many, last, names=("ann", "bob", "cid")):
    """Return events of which many are for tickets of the kind."""
    times = sorted(chance.randint(0, last) for _ in range(many))
    own = ("claim", "pass") if kind == "named" else ("show", "lost", "lost", "take", "take", "yield", "rule")
    events = []
    for time in times:
        word = chance.choice(own if chance.random() < 0.9 else ("claim", "pass", "show", "lost", "take", "yield", "rule"))
        more = None
        if word == "pass":
            more = chance.choice(names)
        elif word in ("show", "lost"):
            right = SLIP_SALT if word == "show" else STUB_SALT
            more = right if chance.random() < 0.8 else WRONG_SALT
        events.append((time, word, chance.choice(names), more))
    return events
