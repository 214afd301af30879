"""What is paid, lapsed and pending of several tickets (point 172)."""

from lotshown.claims import state


def split(standing, prize):
    """Return the pairs (name, money) that a state pays, the money that has lapsed, and the money that is pending."""
    if standing[0] == "paid":
        return list(standing[1]), 0, 0
    if standing[0] == "lapsed":
        return [], prize, 0
    return [], 0, prize


def paid_of(terms, tickets, prizes, courses, now):
    """Return what is paid of the tickets, by names and numbers, what has lapsed, and what is pending."""
    rows = []
    lapsed = pending = 0
    for ticket, prize, events in zip(tickets, prizes, courses):
        pairs, gone, left = split(state(terms, ticket, prize, events, now), prize)
        rows.extend([(name, ticket[0], money) for name, money in pairs])
        lapsed += gone
        pending += left
    return (sorted(rows), lapsed, pending)


def paid_to(terms, tickets, prizes, courses, now):
    """Return the ascending list of what each name was paid, in sum."""
    sums = {}
    for name, _, money in paid_of(terms, tickets, prizes, courses, now)[0]:
        sums[name] = sums.get(name, 0) + money
    return sorted([(name, sums[name]) for name in sums])
