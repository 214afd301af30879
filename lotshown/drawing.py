"""How the parties draw a round (points 188 to 191).

Promises and papers have a place for each party; deeds are reveals, withholds and helps.
"""

from lotshown.charter import by_shares, is_deed, size_of
from lotshown.checked import checks, open_checked, promise
from lotshown.claims import is_time
from lotshown.errors import Refused
from lotshown.joint import stands
from lotshown.names import is_number
from lotshown.octets import of_number
from lotshown.promises import opens

_ROUND_SIZE = 4
_PARTY_SIZE = 1
_VALUE_SIZE = 8
_WORDS = ("reveal", "withhold", "help")


def binding(round_number, number):
    """Return the binding octets of a party in a round."""
    return of_number(round_number, _ROUND_SIZE) + of_number(number, _PARTY_SIZE)


def _opens_seal(charter, round_number, promises, number, salt, values):
    """Tell whether the salt opens the seal of a party, with its binding octets and the values."""
    octets = binding(round_number, number)
    for value in values:
        octets = octets + of_number(value, _VALUE_SIZE)
    return promises[number] is not None and opens(charter[0], promises[number], salt, octets)


def may_show(charter, round_number, promises, party, paper, salt):
    """Tell whether the salt opens the seal of the party with the row of the paper."""
    parties = charter[5]
    if not by_shares(charter) or party not in parties:
        return False
    return _opens_seal(charter, round_number, promises, parties.index(party), salt, paper[0])


def outs(charter, promises, papers):
    """Return the ascending tuple of the numbers of the parties that are out."""
    return tuple([
        number for number in range(len(charter[5])) if _is_out(charter, promises[number], papers[number])
    ])


def _is_out(charter, seal, shown):
    if seal is None or not by_shares(charter):
        return seal is None
    _, _, group, threshold = charter[6]
    return shown is None or not stands(group, threshold, len(charter[5]), shown[0])


def _turns_used(deeds):
    return len([deed for deed in deeds if deed[0] in ("reveal", "withhold")])


def turn(charter, promises, papers, deeds):
    """Return the number of the party whose turn it is, or None."""
    out = outs(charter, promises, papers)
    order = [number for number in range(len(charter[5])) if number not in out]
    used = _turns_used(deeds)
    return order[used] if used < len(order) else None


def may_do(charter, round_number, promises, papers, deeds, deed):
    """Tell whether a reveal, a withhold or a help can be done behind the deeds."""
    if not is_deed(charter, deed) or deed[0] not in _WORDS or deed[1] not in charter[5]:
        return False
    number = charter[5].index(deed[1])
    following = turn(charter, promises, papers, deeds)
    if deed[0] == "help":
        return following is None and _may_help(charter, papers, deeds, number, deed)
    if following != number:
        return False
    return deed[0] == "withhold" or _may_reveal(charter, round_number, promises, papers, number, deed)


def _may_reveal(charter, round_number, promises, papers, number, deed):
    _, _, value, opener = deed
    if value >= size_of(charter):
        return False
    if not by_shares(charter):
        return _opens_seal(charter, round_number, promises, number, opener, (value,))
    group = charter[6][2]
    # The size is at most q, so that the value is a number of the group.
    return is_number(opener, 0, group[1] - 1) and promise(group, value, opener) == papers[number][0][0][0]


def _may_help(charter, papers, deeds, number, deed):
    """Tell whether a share can be handed in for a party when all have had their turn."""
    party = deed[1]
    shares = _shares_for(deeds, party)
    if not _withheld(deeds, party) or len(shares) >= charter[6][3]:
        return False
    if not is_number(deed[2], 1, len(charter[5])) or deed[2] in [share[0] for share in shares]:
        return False
    return checks(charter[6][2], papers[number][0][0], deed[2:])


def _withheld(deeds, party):
    return ("withhold", party) in deeds


def _shares_for(deeds, party):
    """List the shares that were handed in for a party."""
    return [deed[2:] for deed in deeds if deed[0] == "help" and deed[1] == party]


def is_ready(charter, promises, papers, end, time):
    """Tell whether the parties are ready at a time, when the sale ended at end."""
    if not by_shares(charter) or time >= end + charter[7][2]:
        return True
    return all(seal is None or shown is not None for seal, shown in zip(promises, papers))


def may_draw(charter, promises, papers, deeds, times):
    """Tell whether the round can be drawn, with the times of the sale's end, the first and last turn, and the draw."""
    end, _, last, time = times
    span, wait, patience = charter[7]
    if not is_time(time + span + wait) or not is_ready(charter, promises, papers, end, time):
        return False
    if turn(charter, promises, papers, deeds) is not None or not _fits_turns(charter, promises, papers, deeds, times):
        return False
    return not by_shares(charter) or time >= last + patience or _all_opened(charter, deeds)


def _fits_turns(charter, promises, papers, deeds, times):
    """Tell whether the turns could be used at the times of the first and the last one."""
    end, first, last, _ = times
    used = _turns_used(deeds)
    if used == 0:
        return first == end and last == end
    # Who is ready at the first turn stays ready, so that the later turns need no look.
    return (used > 1 or first == last) and is_ready(charter, promises, papers, end, first)


def _all_opened(charter, deeds):
    return all(
        len(_shares_for(deeds, party)) >= charter[6][3] for party in charter[5] if _withheld(deeds, party)
    )


def result(charter, promises, papers, deeds):
    """Return the result of the draw."""
    if turn(charter, promises, papers, deeds) is not None:
        raise Refused("not all parties have had their turn")
    size = size_of(charter)
    values = [deed[2] for deed in deeds if deed[0] == "reveal"]
    for number, party in enumerate(charter[5]):
        shares = _shares_for(deeds, party)
        if by_shares(charter) and _withheld(deeds, party) and len(shares) >= charter[6][3]:
            value, _ = open_checked(charter[6][2], papers[number][0][0], shares)
            if value < size:
                values.append(value)
    return sum(values) % size
