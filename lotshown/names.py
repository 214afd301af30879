"""Names and integers (point 1), and the plain tests that the other files share."""

_LETTERS = "abcdefghijklmnopqrstuvwxyz"
_FIGURES = "0123456789"
_MOST_LETTERS = 16


def is_name(value):
    """Tell whether the value, of any kind, is a name."""
    if not isinstance(value, str) or not 1 <= len(value) <= _MOST_LETTERS:
        return False
    return all(sign in _LETTERS for sign in value)


def is_number(value, least, most):
    """Tell whether the value, of any kind, is an integer from least to most."""
    # For Python a truth value is an integer, for this package it is none.
    return isinstance(value, int) and not isinstance(value, bool) and least <= value <= most


def is_names(value, least, most):
    """Tell whether the value, of any kind, is an ascending tuple of so many different names."""
    if not isinstance(value, tuple) or not least <= len(value) <= most:
        return False
    return all(is_name(name) for name in value) and ascends(value)


def ascends(row):
    """Tell whether each item of a row, all of one kind, is greater than the one before it."""
    return all(row[at] < row[at + 1] for at in range(len(row) - 1))


def is_decimal(text, most):
    """Tell whether the text is the decimal writing of an integer with at most so many figures."""
    figures = text[1:] if text.startswith("-") else text
    if not 1 <= len(figures) <= most or not all(sign in _FIGURES for sign in figures):
        return False
    return text == "0" or not figures.startswith("0")
