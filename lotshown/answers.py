"""Certificates that answer questions about drawn rounds (points 200 and 201)."""

from lotshown.audit import sale_of
from lotshown.books import absence
from lotshown.charter import pick_by
from lotshown.errors import Malformed, NotThere
from lotshown.groves import paper
from lotshown.judge import is_question, prize_by
from lotshown.sales import number_octets


def certify(charter, publications, question):
    """Return a certificate that answers the question, or None if there is none."""
    if not is_question(question):
        raise Malformed("this is no question")
    if question[1] >= len(publications):
        raise NotThere("the round is not published")
    bulletin, book = publications[question[1]]
    if question[0] == "drawn":
        return (question, pick_by(charter, bulletin[7]), None)
    octets = number_octets(question[2])
    places = [place for place, entry in enumerate(book) if entry[:len(octets)] == octets]
    if question[0] == "unsold":
        return None if len(places) > 0 else (question, True, absence(charter[0], book, octets))
    if len(places) == 0:
        return None
    shown = (places[0], paper(charter[0], book, places[0]))
    entry = book[places[0]]
    if question[0] == "sold":
        return (question, entry, shown)
    return (question, prize_by(charter, bulletin, sale_of(charter, entry)), (entry,) + shown)
