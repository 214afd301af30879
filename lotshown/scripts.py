"""Deeds as lines, logs as texts, and scripts (points 204 to 206)."""

from lotshown.charter import by_shares, is_deed
from lotshown.claims import is_time
from lotshown.errors import Malformed, NotThere, OutOfRange, Refused, TooMuch
from lotshown.lines import line_of, number_of, number_word, read_sheet, words_of
from lotshown.octets import hexed, is_hex, unhexed

_NOTHING = "-"
# How the words behind the first one are read; "opener" and "more" hang on the way of drawing and on the event.
_KINDS = {
    "pass": ("number",),
    "promise": ("text", "text"),
    "seal": (),
    "reveal": ("text", "number", "opener"),
    "withhold": ("text",),
    "help": ("text", "number", "number", "number"),
    "draw": (),
    "event": ("number", "number", "text", "text", "more"),
}


def line_of_deed(charter, deed):
    """Return the line of a deed."""
    if deed[0] == "sell":
        return line_of(_sale_words(charter, deed))
    if deed[0] == "paper":
        return line_of(_paper_words(deed))
    return line_of([_word_of(part) for part in deed])


def _word_of(part):
    if part is None:
        return _NOTHING
    if isinstance(part, tuple):
        return hexed(part)
    return part if isinstance(part, str) else number_word(part)


def _sale_words(charter, deed):
    word, seller, number, system, kind, holder = deed
    owners = [holder] if kind == "named" else list(holder)
    fields = [_field_word(field, part) for field, part in zip(charter[1], system)]
    return [word, seller, number_word(number), kind] + owners + fields


def _field_word(field, part):
    if field[0] == "choice":
        return _mask([number - 1 for number in part])
    return "/".join(_mask(figures) for figures in part)


def _mask(numbers):
    """Return the mask of different integers from 0 on."""
    bits = sum([1 << number for number in numbers])
    return f"{bits:x}"


def _paper_words(deed):
    word, party, paper, salt = deed
    row, complaints, shares = paper
    words = [word, party, hexed(salt)] + [number_word(number) for number in row]
    words.extend(["+" + number_word(index) for index in complaints])
    return words + [":".join(number_word(number) for number in share) for share in shares]


def deed_of_line(charter, line):
    """Return the deed whose line the text is."""
    words = words_of(line)
    if words[0] == "sell":
        deed = _sale_of(charter, words)
    elif words[0] == "paper":
        deed = _paper_of(words)
    else:
        deed = _plain_deed_of(charter, words)
    if not is_deed(charter, deed) or line_of_deed(charter, deed) != line:
        raise Malformed("the text is the line of no deed")
    return deed


def _plain_deed_of(charter, words):
    """Return the deed whose words stand in the order of its parts."""
    kinds = _KINDS.get(words[0])
    if kinds is None or len(words) != len(kinds) + 1:
        raise Malformed("there is no such deed")
    parts = [words[0]]
    for kind, word in zip(kinds, words[1:]):
        if kind == "opener":
            kind = "number" if by_shares(charter) else "octets"
        elif kind == "more":
            kind = "octets" if words[3] in ("show", "lost") else "text"
        parts.append(_part_of(kind, word))
    return tuple(parts)


def _part_of(kind, word):
    if kind == "number":
        return number_of(word)
    if kind == "octets":
        return unhexed(word)
    return None if word == _NOTHING else word


def _sale_of(charter, words):
    game = charter[1]
    behind = 6 if words[3:4] == ["bearer"] else 5
    if len(words) != behind + len(game):
        raise Malformed("a sale has another number of words")
    word, seller, number, kind = words[:4]
    holder = words[4] if behind == 5 else (words[4], words[5])
    system = tuple([_field_of(field, mask) for field, mask in zip(game, words[behind:])])
    return (word, seller, number_of(number), system, kind, holder)


def _field_of(field, word):
    if field[0] == "choice":
        return tuple([number + 1 for number in _numbers_of(word)])
    return tuple([tuple(_numbers_of(mask)) for mask in word.split("/")])


def _numbers_of(mask):
    """List the integers whose mask the word is."""
    if mask == "" or not is_hex(mask):
        raise Malformed("a mask is written in hex figures")
    bits = int(mask, 16)
    return [at for at in range(bits.bit_length()) if bits >> at & 1 == 1]


def _paper_of(words):
    if len(words) < 3:
        raise Malformed("a paper has a party and a salt")
    row = []
    complaints = []
    shares = []
    for word in words[3:]:
        if word.startswith("+"):
            complaints.append(number_of(word[1:]))
        elif ":" in word:
            shares.append(tuple([number_of(piece) for piece in word.split(":")]))
        else:
            row.append(number_of(word))
    return (words[0], words[1], (tuple(row), tuple(complaints), tuple(shares)), unhexed(words[2]))


def log_text(charter, log):
    """Return the text with a row for each deed of a log."""
    return "".join([number_word(time) + " " + line_of_deed(charter, deed) + "\n" for time, deed in log])


def log_of(charter, text):
    """Return the log whose text this is."""
    rows = text.split("\n")
    if rows[-1] != "":
        raise Malformed("each row of a log ends with a line feed")
    log = []
    for row in rows[:-1]:
        word, _, line = row.partition(" ")
        time = number_of(word)
        if not is_time(time):
            raise Malformed("a time is from 0 to 10^9")
        log.append((time, deed_of_line(charter, line)))
    return log


def run_script(office, text):
    """Let the office do the deeds of a script, and return the answers to all rows but remarks."""
    good, bad = read_sheet(text)
    answers = [(number, "bad") for number, _ in bad]
    for number, words in good:
        answers.append((number, _answer(office, " ".join(words))))
    return sorted(answers)


def _answer(office, line):
    try:
        office.do(deed_of_line(office.charter, line))
    except OutOfRange:
        return "range"
    except Malformed:
        return "form"
    except NotThere:
        return "none"
    except Refused:
        return "refused"
    except TooMuch:
        return "much"
    return "done"
