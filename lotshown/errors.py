"""The errors of the package (point 2)."""


class LotError(ValueError):
    """What all errors of the package are."""


class OutOfRange(LotError):
    """A number is outside of its bounds."""


class Malformed(LotError):
    """A value is not built as it must be."""


class NotThere(LotError):
    """Something is asked for by a name or a number, and does not exist."""


class Refused(LotError):
    """The rules do not allow it."""


class TooMuch(LotError):
    """The work for this input would be too much."""
