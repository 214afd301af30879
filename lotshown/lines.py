"""Words, lines, number words and sheets (points 8 and 9)."""

from lotshown.errors import Malformed, OutOfRange, Refused, TooMuch
from lotshown.names import is_decimal

_SIGNS = "abcdefghijklmnopqrstuvwxyz0123456789-/.,:+=#_"
_MOST_SIGNS = 80
_MOST_WORDS = 20
_MOST_FIGURES = 20
_MOST_TEXT = 100000


def is_word(value):
    """Tell whether the value, of any kind, is a word."""
    if not isinstance(value, str) or not 1 <= len(value) <= _MOST_SIGNS:
        return False
    return all(sign in _SIGNS for sign in value)


def _make_line(words):
    return 1 <= len(words) <= _MOST_WORDS and all(is_word(word) for word in words)


def line_of(words):
    """Return the line of a list of words."""
    if not _make_line(words):
        raise Malformed("a line has from 1 to 20 words")
    return " ".join(words)


def words_of(line):
    """Return the list of the words of a line."""
    words = line.split(" ")
    if not _make_line(words):
        raise Malformed("the text is no line")
    return words


def number_word(number):
    """Return the number word of an integer."""
    if abs(number) >= 10 ** 20:
        raise OutOfRange("a number word has at most 20 figures")
    return str(number)


def number_of(word):
    """Return the integer whose number word the text is."""
    if not is_decimal(word, _MOST_FIGURES):
        raise Malformed("the text is no number word")
    return int(word)


def read_sheet(text):
    """Return the good rows of a sheet with their words, and the bad ones with their reasons."""
    if len(text) > _MOST_TEXT:
        raise TooMuch("a sheet has at most 100000 signs")
    good = []
    bad = []
    for number, row in enumerate(_rows(text), start=1):
        if row.startswith("#"):
            continue
        reason = _reason(row)
        if reason is None:
            good.append((number, row.split(" ")))
        else:
            bad.append((number, reason))
    return good, bad


def _rows(text):
    rows = text.split("\n")
    # Behind the last line feed no further row begins, and the empty text has none.
    return rows[:-1] if rows[-1] == "" else rows


def _reason(row):
    if row == "":
        return "blank"
    if not all(sign == " " or sign in _SIGNS for sign in row):
        return "sign"
    if row.startswith(" ") or row.endswith(" ") or "  " in row:
        return "space"
    return None if _make_line(row.split(" ")) else "long"


def write_sheet(rows):
    """Return the text in which each list of words is a row."""
    lines = [line_of(words) for words in rows]
    if any(line.startswith("#") for line in lines):
        raise Refused("a row that begins with # would be a remark")
    text = "".join(line + "\n" for line in lines)
    if len(text) > _MOST_TEXT:
        raise TooMuch("a sheet has at most 100000 signs")
    return text
