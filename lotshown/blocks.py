"""Who sells which numbers (point 41)."""

from lotshown.names import is_name, is_number

_MOST_BLOCKS = 100
_MOST_NUMBER = 10 ** 15


def is_blocks(value):
    """Tell whether the value, of any kind, is blocks."""
    if not isinstance(value, tuple) or len(value) > _MOST_BLOCKS:
        return False
    if not all(_is_block(block) for block in value):
        return False
    return all(value[at][1] <= value[at + 1][0] for at in range(len(value) - 1))


def _is_block(value):
    if not isinstance(value, tuple) or len(value) != 3:
        return False
    first, behind, seller = value
    return is_number(behind, 1, _MOST_NUMBER) and is_number(first, 0, behind - 1) and is_name(seller)


def seller_of(blocks, number):
    """Return the seller in whose block the number is, or None."""
    for first, behind, seller in blocks:
        if first <= number < behind:
            return seller
    return None


def may_sell(blocks, sold, seller, number):
    """Tell whether the seller may sell the number."""
    # A number in no block has the seller None, which is no name.
    return seller_of(blocks, number) == seller and number not in sold


def left(blocks, sold, seller):
    """Return the list of the longest stretches of numbers that the seller may still sell."""
    stretches = []
    for first, behind, owner in blocks:
        if owner == seller:
            stretches.extend(_unsold(sold, first, behind))
    return _joined(stretches)


def _unsold(sold, first, behind):
    stretches = []
    start = first
    for number in sold:
        if first <= number < behind:
            stretches.append((start, number))
            start = number + 1
    stretches.append((start, behind))
    return [stretch for stretch in stretches if stretch[0] < stretch[1]]


def _joined(stretches):
    """Join stretches that touch, as two blocks of one seller may."""
    joined = []
    for first, behind in stretches:
        if joined and joined[-1][1] == first:
            joined[-1] = (joined[-1][0], behind)
        else:
            joined.append((first, behind))
    return joined
