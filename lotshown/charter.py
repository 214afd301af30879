"""Charters, and the deeds of an office (points 185 to 187)."""

from lotshown.blocks import is_blocks
from lotshown.checked import is_group
from lotshown.claims import is_event, is_number_of_ticket, is_ticket, is_time
from lotshown.digest import is_seal
from lotshown.errors import Refused
from lotshown.games import is_game, is_system, many
from lotshown.hits import is_classes
from lotshown.names import is_name, is_number
from lotshown.octets import of_number
from lotshown.picks import drawn
from lotshown.plain import is_row
from lotshown.prizes import is_table
from lotshown.promises import is_salt
from lotshown.ranks import pick_of

_MOST_WIDTH = 32
_MOST_PARTIES = 6
_MOST_OCTETS = 7
_MOST_TERM = 10 ** 6
_MOST_RESERVE = 10 ** 12
_MOST_SIZE = 12
_MOST_VALUE = 2 ** 62
_MOST_SALT = 32
_MOST_ROUND = 10 ** 6
_MOST_ROW = 6
_MOST_COMPLAINTS = 5


def is_charter(value):
    """Tell whether the value, of any kind, is a charter."""
    if not is_row(value, 9):
        return False
    width, game, classes, table, blocks, parties, way, terms, reserve = value
    if not is_number(width, 1, _MOST_WIDTH) or not is_game(game) or not is_classes(game, classes):
        return False
    if not is_table(table) or len(table[3]) != len(classes) or not is_blocks(blocks):
        return False
    if not _are_parties(parties) or not _is_way(game, len(parties), way):
        return False
    if not is_row(terms, 3) or not all(is_number(time, 1, _MOST_TERM) for time in terms):
        return False
    return is_number(reserve, 0, _MOST_RESERVE)


def _are_parties(value):
    if not isinstance(value, tuple) or not 1 <= len(value) <= _MOST_PARTIES:
        return False
    return all(is_name(party) for party in value) and len(set(value)) == len(value)


def _is_way(game, n, value):
    """Tell whether the value is a way of drawing for a game and so many parties."""
    if not is_row(value, 4):
        return False
    word, octets, group, threshold = value
    if not is_number(octets, 0, _MOST_OCTETS) or _size(game, octets) < 2:
        return False
    if word == "shares":
        return is_group(group) and group[1] >= _size(game, octets) and group[1] > n and is_number(threshold, 1, n)
    return word == "turns" and group is None and is_number(threshold, 0, 0)


def _size(game, octets):
    return many(game) if octets == 0 else 1 << (8 * octets)


def size_of(charter):
    """Return the number of the results that a draw can have."""
    return _size(charter[1], charter[6][1])


def by_shares(charter):
    """Tell whether the parties draw by shares."""
    return charter[6][0] == "shares"


def pick_by(charter, result):
    """Return the pick that a result draws."""
    game, octets = charter[1], charter[6][1]
    return pick_of(game, result) if octets == 0 else drawn(game, of_number(result, octets))


def scheme_of(charter):
    """Return the scheme by which the parties draw."""
    size = size_of(charter)
    if size > _MOST_SIZE:
        raise Refused("a scheme has at most 12 results")
    rest = (charter[6][3],) if by_shares(charter) else ()
    return (charter[6][0], size, tuple(range(len(charter[5]))), rest)


def is_deed(charter, value):
    """Tell whether the value, of any kind, is a deed, whatever is there or not."""
    if not isinstance(value, tuple) or len(value) == 0:
        return False
    word, parts = value[0], value[1:]
    if word in ("seal", "draw"):
        return len(parts) == 0
    if word == "pass":
        return len(parts) == 1 and is_time(parts[0])
    if word == "withhold":
        return len(parts) == 1 and is_name(parts[0])
    if word == "promise":
        return len(parts) == 2 and is_name(parts[0]) and is_seal(charter[0], parts[1])
    if word == "sell":
        return len(parts) == 5 and _is_sale(charter, parts)
    if word == "event":
        return len(parts) == 5 and _is_told(parts)
    if word == "reveal":
        return len(parts) == 3 and _is_reveal(charter, parts)
    return by_shares(charter) and _is_of_shares(word, parts)


def _is_sale(charter, parts):
    seller, number, system, kind, holder = parts
    return is_name(seller) and is_system(charter[1], system) and is_ticket(charter[0], (number, kind, holder))


def _is_told(parts):
    """Tell whether the parts behind the word are those of an event."""
    at_round, number, word, name, more = parts
    if not is_number(at_round, 0, _MOST_ROUND) or not is_number_of_ticket(number):
        return False
    # The time of an event is that of the office, so that any one will do.
    return is_event((0, word, name, more)) and (word not in ("show", "lost") or _is_short_salt(more))


def _is_reveal(charter, parts):
    party, value, opener = parts
    if not is_name(party) or not _is_value(value):
        return False
    return _is_value(opener) if by_shares(charter) else _is_short_salt(opener)


def _is_of_shares(word, parts):
    if word == "help":
        return len(parts) == 4 and is_name(parts[0]) and all(_is_value(value) for value in parts[1:])
    return word == "paper" and len(parts) == 3 and is_name(parts[0]) and is_shown(parts[1:])


def is_shown(value):
    """Tell whether the value, of any kind, is a pair of a paper and a salt as a party can show them."""
    return is_row(value, 2) and _is_paper(value[0]) and _is_short_salt(value[1])


def _is_paper(value):
    if not is_row(value, 3):
        return False
    row, complaints, shares = value
    if not _are_values(row, _MOST_ROW) or not _are_values(complaints, _MOST_COMPLAINTS):
        return False
    if not isinstance(shares, tuple) or len(shares) > _MOST_COMPLAINTS:
        return False
    return all(_are_values(share, 3) and len(share) == 3 for share in shares)


def _are_values(value, most):
    return isinstance(value, tuple) and len(value) <= most and all(_is_value(number) for number in value)


def _is_value(value):
    return is_number(value, 0, _MOST_VALUE)


def _is_short_salt(value):
    return is_salt(value) and len(value) <= _MOST_SALT
