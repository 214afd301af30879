"""Books, their roots and the papers of their places (points 17, 18, 21 and 22)."""

from lotshown.digest import check_width, is_seal, seal
from lotshown.errors import NotThere
from lotshown.names import is_number
from lotshown.octets import unhexed

_MOST_ENTRIES = 4096
_EMPTY_INPUT = (2,)
_LEAF_MARK = (3,)
_NODE_MARK = (4,)


def cut(size):
    """Return the greatest power of two less than a size from 2 on."""
    return 1 << ((size - 1).bit_length() - 1)


def leaf_input(entry):
    """Return the octets that are sealed for one entry."""
    return _LEAF_MARK + entry


def node_input(left, right):
    """Return the octets that are sealed for two roots side by side."""
    return _NODE_MARK + unhexed(left) + unhexed(right)


def root_of(width, entries):
    """Return the root of a book."""
    if len(entries) == 0:
        return seal(width, _EMPTY_INPUT)
    if len(entries) == 1:
        return seal(width, leaf_input(entries[0]))
    k = cut(len(entries))
    return seal(width, node_input(root_of(width, entries[:k]), root_of(width, entries[k:])))


def root(width, entries):
    """Return the root of a book."""
    check_width(width)
    return root_of(width, entries)


def paper(width, entries, place):
    """Return the paper of a place of a book."""
    check_width(width)
    if not is_number(place, 0, len(entries) - 1):
        raise NotThere("the book has no such place")
    seals = []
    stretch = entries
    for late in reversed(_sides(len(entries), place)):
        k = cut(len(stretch))
        seals.append(root_of(width, stretch[:k] if late else stretch[k:]))
        stretch = stretch[k:] if late else stretch[:k]
    seals.reverse()
    return tuple(seals)


def _sides(size, place):
    """List, from the entry up, whether the place is behind the cut."""
    sides = []
    while size > 1:
        k = cut(size)
        late = place >= k
        sides.append(late)
        size = size - k if late else k
        place = place - k if late else place
    sides.reverse()
    return sides


def shows(width, root, size, place, entry, paper):
    """Tell whether the value paper, of any kind, shows the entry at its place."""
    check_width(width)
    if not is_number(size, 1, _MOST_ENTRIES) or not is_number(place, 0, size - 1):
        return False
    if not isinstance(paper, tuple) or len(paper) != len(_sides(size, place)):
        return False
    if not all(is_seal(width, mark) for mark in paper):
        return False
    return seal(width, inputs(width, size, place, entry, paper)[-1]) == root


def inputs(width, size, place, entry, paper):
    """Return the list of the octets that are sealed to check the paper of a place."""
    check_width(width)
    sealed = [leaf_input(entry)]
    for late, other in zip(_sides(size, place), paper):
        own = seal(width, sealed[-1])
        sealed.append(node_input(other, own) if late else node_input(own, other))
    return sealed


def coincidence(width, inputs):
    """Return the first coincidence of a list of octets, or None."""
    check_width(width)
    first = {}
    for octets in inputs:
        earlier = first.setdefault(seal(width, octets), octets)
        if earlier != octets:
            return (earlier, octets)
    return None
