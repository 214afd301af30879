"""Plain tests of values of any kind, which several files share."""

from lotshown.names import is_number


def is_amount(value):
    """Tell whether the value, of any kind, is an integer from 0 on, of any size."""
    # An integer is never above itself, so that nothing bounds it but nought.
    return is_number(value, 0, value)


def is_row(value, size):
    """Tell whether the value, of any kind, is a tuple of so many things."""
    return isinstance(value, tuple) and len(value) == size
