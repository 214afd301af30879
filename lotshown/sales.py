"""What may be sold in a round, and what follows from it for what was drawn (points 188, 192 and 195)."""

from lotshown.blocks import seller_of
from lotshown.games import held
from lotshown.hits import wins
from lotshown.octets import of_number, of_text
from lotshown.prizes import settle
from lotshown.scripts import line_of_deed

_MOST_TICKETS = 4096
_MOST_HELD = 5000
_MOST_PICKS = 10 ** 6
_NUMBER_SIZE = 8


def number_octets(number):
    """Return the octets with which the entry of a ticket begins."""
    return of_number(number, _NUMBER_SIZE)


def entry_octets(charter, deed):
    """Return the entry of a sale."""
    return number_octets(deed[2]) + of_text(line_of_deed(charter, deed))


def held_by(charter, sale):
    """Return the number of the picks that the system of a sale holds."""
    return held(charter[1], sale[3])


def in_block(charter, sale):
    """Tell whether the number of a sale is in a block of its seller."""
    return seller_of(charter[4], sale[2]) == sale[1]


def is_small(count):
    """Tell whether a ticket may be sold that holds so many picks."""
    return count <= _MOST_HELD


def is_within(tickets, picks):
    """Tell whether so many tickets with so many picks in all may be sold in one round."""
    return tickets <= _MOST_TICKETS and picks <= _MOST_PICKS


def wins_of(charter, sale, pick):
    """Return what a sale wins in each class when a pick was drawn."""
    return wins(charter[1], charter[2], sale[3], pick)


def prize_of(row, prizes):
    """Return the prize of a ticket, by its wins and what each winner of each class is paid."""
    return sum([many * prize for many, prize in zip(row, prizes)])


def settled_round(charter, state, sales, pick):
    """Return the outcome of a round, its result from a state on, and for each sale its number, wins and prize."""
    rows = [wins_of(charter, sale, pick) for sale in sales]
    winners = [sum([row[place] for row in rows]) for place in range(len(charter[2]))]
    outcome = (sum([held_by(charter, sale) for sale in sales]), tuple(winners))
    told = settle(charter[3], state, outcome)
    tickets = [(sale[2], row, prize_of(row, told[0])) for sale, row in zip(sales, rows)]
    return outcome, told, tickets
