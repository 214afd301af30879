"""Secrets that several dealers deal together (points 58 to 60)."""

from lotshown.checked import checks, is_element
from lotshown.errors import Malformed, OutOfRange
from lotshown.names import ascends, is_number

_MOST_THRESHOLD = 8
_MOST_PARTIES = 12


def stands(group, threshold, n, paper):
    """Tell whether the value paper, of any kind, is the paper of a dealer who stands."""
    _check_numbers(group, threshold, n)
    if not isinstance(paper, tuple) or len(paper) != 3:
        return False
    row, complaints, shown = paper
    if not _is_row(group, threshold, row) or not _are_complaints(n, complaints) or not isinstance(shown, tuple):
        return False
    if len(complaints) >= threshold:
        return False
    answered = [share[0] for share in shown if checks(group, row, share)]
    return all(index in answered for index in complaints)


def _check_numbers(group, threshold, n):
    if not is_number(threshold, 1, _MOST_THRESHOLD):
        raise OutOfRange("the threshold is from 1 to 8")
    if not is_number(n, threshold, min(_MOST_PARTIES, group[1] - 1)):
        raise OutOfRange("the parties are from the threshold to 12, and less than q")


def _is_row(group, threshold, value):
    if not isinstance(value, tuple) or len(value) != threshold:
        return False
    return all(is_element(group, element) for element in value)


def _are_complaints(n, value):
    if not isinstance(value, tuple):
        return False
    return all(is_number(index, 1, n) for index in value) and ascends(value)


def standing(group, threshold, n, papers):
    """Return the ascending list of the indices of those papers whose dealers stand."""
    return [at for at, paper in enumerate(papers) if stands(group, threshold, n, paper)]


def joint_row(group, rows):
    """Return the row of the sum of the dealings with these rows."""
    p = group[0]
    joint = rows[0]
    for row in rows[1:]:
        joint = tuple([one * other % p for one, other in zip(joint, row)])
    return joint


def joint_share(group, shares):
    """Return the share of the sum of the dealings with these shares."""
    if len(shares) == 0:
        raise Malformed("there is no share")
    index = shares[0][0]
    if any(share[0] != index for share in shares):
        raise Malformed("the shares do not have the same index")
    q = group[1]
    return (index, sum(share[1] for share in shares) % q, sum(share[2] for share in shares) % q)
