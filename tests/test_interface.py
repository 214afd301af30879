"""What the interface lists is defined under its heading, with its arguments in their order."""

import ast
import pathlib
import unittest

PACKAGE = pathlib.Path(__file__).resolve().parent.parent / "lotshown"

CLASSES = {"errors": ("LotError", "OutOfRange", "Malformed", "NotThere", "Refused", "TooMuch")}

FUNCTIONS = {
    "names": ("is_name(value)", "is_number(value, least, most)", "is_names(value, least, most)"),
    "parts": ("is_fraction(value)", "made(part, whole)", "plus(one, other)", "minus(one, other)", "times(one, other)",
              "through(one, other)", "less(one, other)", "rounded(fraction, way)", "write(fraction)", "read(text)",
              "dealt(amount, weights)"),
    "lines": ("is_word(value)", "line_of(words)", "words_of(line)", "number_word(number)", "number_of(word)", "read_sheet(text)",
              "write_sheet(rows)"),
    "octets": ("is_octets(value, most)", "of_number(number, size)", "number_of(octets)", "of_text(text)", "hexed(octets)",
               "unhexed(text)", "packed(parts)", "unpacked(octets)"),
    "digest": ("constants()", "start_words()", "digest(octets)", "seal(width, octets)", "is_seal(width, value)",
               "is_coincidence(width, value)"),
    "promises": ("is_salt(value)", "promise_input(salt, value)", "promise(width, salt, value)",
                 "opens(width, promise, salt, value)"),
    "groves": ("root(width, entries)", "paper(width, entries, place)", "shows(width, root, size, place, entry, paper)",
               "inputs(width, size, place, entry, paper)", "coincidence(width, inputs)"),
}


def told(name):
    """Return the names of the classes, and the functions with their arguments, that a file defines."""
    rows = ast.parse((PACKAGE / (name + ".py")).read_text()).body
    classes = [row.name for row in rows if isinstance(row, ast.ClassDef)]
    functions = [f"{row.name}({ast.unparse(row.args)})" for row in rows if isinstance(row, ast.FunctionDef)]
    return classes, functions


class Interface(unittest.TestCase):
    def test_classes(self):
        for name, wanted in CLASSES.items():
            self.assertEqual(told(name)[0], list(wanted))

    def test_functions(self):
        for name, wanted in FUNCTIONS.items():
            self.assertEqual([row for row in wanted if row not in told(name)[1]], [], name)


if __name__ == "__main__":
    unittest.main()
