"""Whether a certificate about a drawn round holds, without any book (points 200 and 201)."""

from lotshown.audit import sale_of
from lotshown.books import is_absent
from lotshown.charter import pick_by
from lotshown.claims import is_number_of_ticket
from lotshown.games import is_pick
from lotshown.groves import shows
from lotshown.names import is_number
from lotshown.plain import is_amount, is_row
from lotshown.sales import number_octets, prize_of, wins_of

_MOST_ROUND = 10 ** 6
_NUMBER_SIZE = 8


def is_question(value):
    """Tell whether the value, of any kind, is a question."""
    if not isinstance(value, tuple) or len(value) < 2 or not is_number(value[1], 0, _MOST_ROUND):
        return False
    if value[0] == "drawn":
        return len(value) == 2
    return value[0] in ("sold", "unsold", "prize") and len(value) == 3 and is_number_of_ticket(value[2])


def holds(charter, bulletins, certificate):
    """Tell whether the value certificate, of any kind, holds."""
    if not is_row(certificate, 3):
        return False
    question, answer, paper = certificate
    if not is_question(question) or question[1] >= len(bulletins):
        return False
    bulletin = bulletins[question[1]]
    if question[0] == "sold":
        return is_row(paper, 2) and _shows_sale(charter, bulletin, question[2], answer, paper)
    if question[0] == "unsold":
        return answer is True and _shows_no_sale(charter, bulletin, question[2], paper)
    if question[0] == "drawn":
        return is_pick(charter[1], answer) and answer == pick_by(charter, bulletin[7]) and paper is None
    if not is_row(paper, 3) or not _shows_sale(charter, bulletin, question[2], paper[0], paper[1:]):
        return False
    return is_amount(answer) and answer == prize_by(charter, bulletin, sale_of(charter, paper[0]))


def prize_by(charter, bulletin, sale):
    """Return the prize of a sale by the bulletin of its round."""
    return prize_of(wins_of(charter, sale, pick_by(charter, bulletin[7])), bulletin[9])


def _shows_sale(charter, bulletin, number, entry, paper):
    """Tell whether the entry is that of a ticket with the number, and shown at its place."""
    sale = sale_of(charter, entry)
    if sale is None or sale[2] != number:
        return False
    return shows(charter[0], bulletin[3], bulletin[2], paper[0], entry, paper[1])


def _shows_no_sale(charter, bulletin, number, absence):
    """Tell whether the absence shows that no entry has the number."""
    octets = number_octets(number)
    if not is_absent(charter[0], bulletin[3], bulletin[2], octets, absence):
        return False
    return absence[2] is None or absence[2][0][:_NUMBER_SIZE] != octets
