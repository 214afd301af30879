"""What an office publishes, checked by anyone (points 195 to 199)."""

from lotshown.books import is_sorted
from lotshown.charter import by_shares, is_shown, pick_by
from lotshown.claims import is_time
from lotshown.digest import check_width, is_seal
from lotshown.drawing import may_do, may_draw, may_show, result
from lotshown.errors import Malformed, Refused
from lotshown.groves import cut, leaf_input, node_input, root_of
from lotshown.names import is_number
from lotshown.octets import is_octets
from lotshown.plain import is_row
from lotshown.prizes import start_state
from lotshown.sales import entry_octets, held_by, in_block, is_small, is_within, number_octets, settled_round
from lotshown.scripts import deed_of_line

_MOST_OCTETS = 10000
_LINE_AT = 8
_LINE_SIGNS = " abcdefghijklmnopqrstuvwxyz0123456789-/.,:+=#_"
_PARTS = 10
_TIMES = 4


def entry_of(charter, deed):
    """Return the entry of a sale."""
    return entry_octets(charter, deed)


def sale_of(charter, entry):
    """Return the sale whose entry the value, of any kind, is, or None."""
    if not is_octets(entry, _MOST_OCTETS):
        return None
    signs = {ord(sign): sign for sign in _LINE_SIGNS}
    codes = entry[_LINE_AT:]
    if not all(code in signs for code in codes):
        return None
    line = "".join(signs[code] for code in codes)
    try:
        deed = deed_of_line(charter, line)
    except Malformed:
        return None
    if deed[0] != "sell" or number_octets(deed[2]) != entry[:_LINE_AT]:
        return None
    return deed


def fault(charter, publications):
    """Return the round and the word of the first fault of publications, or None if they are right."""
    return _gone_through(charter, publications)[0]


def settled(charter, publications):
    """Return for each round of right publications the drawn pick, the tickets with their prizes, and the result."""
    wrong, rounds = _gone_through(charter, publications)
    if wrong is not None:
        raise Malformed("the publications are not right")
    return rounds


def _gone_through(charter, publications):
    """Return the first fault, or None, and what is settled in the rounds ahead of it."""
    state = start_state(charter[3])
    since = 0
    rounds = []
    for at, (bulletin, book) in enumerate(publications):
        word = _fault_of_drawing(charter, at, since, bulletin, book)
        if word is not None:
            return (at, word), rounds
        pick = pick_by(charter, bulletin[7])
        outcome, told, tickets = settled_round(charter, state, [sale_of(charter, entry) for entry in book], pick)
        if not _is_same(bulletin[8], outcome):
            return (at, "outcome"), rounds
        if not _is_same(bulletin[9], told[0]):
            return (at, "prizes"), rounds
        state = told[2]
        since = bulletin[6][3]
        rounds.append((pick, tickets, told))
    return None, rounds


def _fault_of_drawing(charter, at, since, bulletin, book):
    """Return the first fault of a round up to its result, or None; the draw ahead of it was at the time since."""
    if not _has_form(charter, at, bulletin):
        return "form"
    if not _is_book(charter, book) or not _is_same(bulletin[2], len(book)):
        return "book"
    if bulletin[3] != root_of(charter[0], book):
        return "book"
    if not _fits_papers(charter, bulletin) or not _fits_deeds(charter, bulletin):
        return "deeds"
    if not _fits_times(charter, since, bulletin):
        return "deeds"
    if not _is_same(bulletin[7], result(charter, bulletin[1], bulletin[4], bulletin[5])):
        return "result"
    return None


def _is_same(value, right):
    """Tell whether the value, of any kind, is the right integer, or tuple of such."""
    if not isinstance(right, tuple):
        return is_number(value, right, right)
    return is_row(value, len(right)) and all(_is_same(one, other) for one, other in zip(value, right))


def _has_form(charter, at, value):
    if not is_row(value, _PARTS) or not is_number(value[0], at, at):
        return False
    promises, papers, times = value[1], value[4], value[6]
    many = len(charter[5])
    if not is_row(promises, many) or not all(seal is None or is_seal(charter[0], seal) for seal in promises):
        return False
    if not is_row(papers, many) or not all(shown is None or _can_be_shown(charter, shown) for shown in papers):
        return False
    return is_row(times, _TIMES) and all(is_time(time) for time in times)


def _can_be_shown(charter, value):
    return by_shares(charter) and is_shown(value)


def _is_book(charter, value):
    """Tell whether the value, of any kind, is a sorted book of tickets that may be sold in one round."""
    if not isinstance(value, tuple):
        return False
    sales = [sale_of(charter, entry) for entry in value]
    if None in sales or not is_sorted(value) or not all(in_block(charter, sale) for sale in sales):
        return False
    counts = [held_by(charter, sale) for sale in sales]
    if not is_within(len(sales), sum(counts)) or not all(is_small(count) for count in counts):
        return False
    return len(set([sale[2] for sale in sales])) == len(sales)


def _fits_papers(charter, bulletin):
    """Tell whether all papers of a bulletin may be shown."""
    at, promises, _, _, papers = bulletin[:5]
    return all(
        shown is None or may_show(charter, at, promises, party, shown[0], shown[1])
        for party, shown in zip(charter[5], papers)
    )


def _fits_deeds(charter, bulletin):
    """Tell whether the deeds of a bulletin could be done one behind the other."""
    at, promises, _, _, papers, deeds = bulletin[:6]
    if not isinstance(deeds, tuple):
        return False
    done = []
    for deed in deeds:
        if not may_do(charter, at, promises, papers, done, deed):
            return False
        done.append(deed)
    return True


def _fits_times(charter, since, bulletin):
    """Tell whether the round could be drawn at its times, when the draw ahead of it was at the time since."""
    _, promises, _, _, papers, deeds, times = bulletin[:7]
    end, first, last, time = times
    return since <= end <= first <= last <= time and may_draw(charter, promises, papers, deeds, times)


def clash(width, one, other):
    """Return a coincidence that comes out of two different books with the same size and root."""
    check_width(width)
    if one == other or len(one) != len(other) or root_of(width, one) != root_of(width, other):
        raise Refused("these are no two different books with the same size and root")
    mine, yours = one, other
    while len(mine) > 1:
        k = cut(len(mine))
        pair = (_halves_input(width, mine, k), _halves_input(width, yours, k))
        if pair[0] != pair[1]:
            return pair
        # Both halves have the same roots, and one of them has different entries.
        if mine[:k] != yours[:k]:
            mine, yours = mine[:k], yours[:k]
        else:
            mine, yours = mine[k:], yours[k:]
    return (leaf_input(mine[0]), leaf_input(yours[0]))


def _halves_input(width, entries, k):
    return node_input(root_of(width, entries[:k]), root_of(width, entries[k:]))
