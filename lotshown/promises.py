"""Promises, and what opens them (point 16)."""

from lotshown.digest import check_width, seal
from lotshown.octets import is_octets, packed

_LEAST_SALT = 16
_MOST_SALT = 64
_MOST_VALUE = 10000
_MARK = (1,)


def is_salt(value):
    """Tell whether the value, of any kind, is a salt."""
    return is_octets(value, _MOST_SALT) and len(value) >= _LEAST_SALT


def promise_input(salt, value):
    """Return the octets that are sealed to promise the value with the salt."""
    return _MARK + packed([salt, value])


def promise(width, salt, value):
    """Return the promise of the value with the salt."""
    check_width(width)
    return seal(width, promise_input(salt, value))


def opens(width, promise, salt, value):
    """Tell whether salt and value, of any kind, open the promise."""
    check_width(width)
    if not is_salt(salt) or not is_octets(value, _MOST_VALUE):
        return False
    return seal(width, promise_input(salt, value)) == promise
