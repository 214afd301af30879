"""What shows that a book only went on, and that an entry is absent (points 19 to 22)."""

from lotshown.digest import check_width, is_seal, seal
from lotshown.errors import OutOfRange, Refused
from lotshown.groves import cut, inputs, node_input, paper, root_of, shows
from lotshown.names import ascends, is_number
from lotshown.octets import is_octets

_MOST_ENTRIES = 4096
_MOST_OCTETS = 10000


def extension(width, entries, old):
    """Return the extension from the first old entries of a book to all of it."""
    check_width(width)
    if not is_number(old, 1, len(entries)):
        raise OutOfRange("old is from 1 to the number of the entries")
    return _extension(width, entries, old, True)


def _extension(width, entries, old, marked):
    if old == len(entries):
        return () if marked else (root_of(width, entries),)
    k = cut(len(entries))
    if old <= k:
        return _extension(width, entries[:k], old, marked) + (root_of(width, entries[k:]),)
    return _extension(width, entries[k:], old - k, False) + (root_of(width, entries[:k]),)


def _cuts(old, size):
    """List, from the entries up, whether old entries stand behind the cut."""
    behind = []
    while old < size:
        k = cut(size)
        late = old > k
        behind.append(late)
        old, size = (old - k, size - k) if late else (old, k)
    behind.reverse()
    return behind


def _seals_needed(old, size):
    # Once an old entry stands behind a cut, the mark is gone, and a seal of its own begins.
    behind = _cuts(old, size)
    return len(behind) + 1 if True in behind else len(behind)


def _told(width, old_root, old, size, seals):
    """Return the old root, the new root, and what is sealed for each, as an extension tells them."""
    behind = _cuts(old, size)
    row = seals if True in behind else (old_root,) + seals
    before = after = row[0]
    old_inputs = []
    new_inputs = []
    for late, side in zip(behind, row[1:]):
        if late:
            old_inputs.append(node_input(side, before))
            before = seal(width, old_inputs[-1])
        new_inputs.append(node_input(side, after) if late else node_input(after, side))
        after = seal(width, new_inputs[-1])
    return before, after, old_inputs, new_inputs


def extends(width, old_root, old, root, size, extension):
    """Tell whether the value extension, of any kind, holds for two roots and sizes."""
    check_width(width)
    if not is_number(size, 1, _MOST_ENTRIES) or not is_number(old, 1, size) or not is_seal(width, old_root):
        return False
    if not isinstance(extension, tuple) or len(extension) != _seals_needed(old, size):
        return False
    if not all(is_seal(width, mark) for mark in extension):
        return False
    return _told(width, old_root, old, size, extension)[:2] == (old_root, root)


def extension_inputs(width, old_root, old, size, extension):
    """Return the list of the octets that are sealed to check an extension."""
    check_width(width)
    told = _told(width, old_root, old, size, extension)
    return told[2] + told[3]


def is_sorted(entries):
    """Tell whether a book is sorted."""
    return ascends(entries)


def absence(width, entries, entry):
    """Return the absence of an entry in a sorted book."""
    check_width(width)
    if not is_sorted(entries) or entry in entries:
        raise Refused("the book is not sorted, or has the entry")
    place = len([other for other in entries if other < entry])
    return (place, _pair(width, entries, place - 1), _pair(width, entries, place))


def _pair(width, entries, place):
    if not 0 <= place < len(entries):
        return None
    return (entries[place], paper(width, entries, place))


def is_absent(width, root, size, entry, absence):
    """Tell whether the value absence, of any kind, shows that the entry is absent."""
    check_width(width)
    if not is_number(size, 0, _MOST_ENTRIES) or not isinstance(absence, tuple) or len(absence) != 3:
        return False
    place, left, right = absence
    if not is_number(place, 0, size):
        return False
    if size == 0:
        return left is None and right is None and root == root_of(width, ())
    if not _stands(width, root, size, place - 1, left) or not _stands(width, root, size, place, right):
        return False
    return (left is None or left[0] < entry) and (right is None or entry < right[0])


def _stands(width, root, size, place, side):
    """Tell whether a side is None beyond the ends, and otherwise a pair that is shown at its place."""
    if not 0 <= place < size:
        return side is None
    if not isinstance(side, tuple) or len(side) != 2 or not is_octets(side[0], _MOST_OCTETS):
        return False
    return shows(width, root, size, place, side[0], side[1])


def absence_inputs(width, size, entry, absence):
    """Return the list of the octets that are sealed to check an absence."""
    check_width(width)
    place, left, right = absence
    sealed = []
    if left is not None:
        sealed.extend(inputs(width, size, place - 1, left[0], left[1]))
    if right is not None:
        sealed.extend(inputs(width, size, place, right[0], right[1]))
    return sealed
