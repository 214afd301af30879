"""Point 1: names and integers."""

import unittest

from lotshown.names import is_name, is_names, is_number
from tests.kinds import ODD_VALUES


class Names(unittest.TestCase):
    def test_names_of_1_and_16_letters(self):
        for text in ("a", "z", "ann", "abcdefghijklmnop", "qrstuvwxyz"):
            self.assertIs(is_name(text), True)

    def test_texts_that_are_no_names(self):
        for text in ("", "abcdefghijklmnopq", "Ann", "ann1", "an n", "ann ", "a\n", "a-b", "\u00e4", "\u0430", "{", "`"):
            self.assertIs(is_name(text), False)

    def test_other_kinds_are_no_names(self):
        for value in ODD_VALUES:
            self.assertIs(is_name(value), isinstance(value, str) and value in ("a", "ann"))

    def test_numbers_within_and_beyond_the_bounds(self):
        for value, right in ((2, False), (3, True), (4, True), (5, True), (6, False), (-3, False), (10 ** 30, False)):
            self.assertIs(is_number(value, 3, 5), right)
        self.assertIs(is_number(-10 ** 60, -10 ** 60, 0), True)
        self.assertIs(is_number(0, 1, 0), False)

    def test_truth_values_and_other_kinds_are_no_numbers(self):
        for value in (True, False, None, 1.0, "1", (1,), [1], b"\x01", {1: 1}):
            self.assertIs(is_number(value, -5, 5), False)

    def test_rows_of_names(self):
        for value in ((), ("ann",), ("ann", "bob"), ("ann", "anna", "bob")):
            self.assertIs(is_names(value, 0, 3), True)

    def test_rows_out_of_order_and_doubled(self):
        for value in (("bob", "ann"), ("ann", "ann"), ("ann", "cid", "bob"), ("ann", "bob", "bob"), ("anna", "ann")):
            self.assertIs(is_names(value, 0, 9), False)

    def test_rows_with_too_many_and_too_few(self):
        self.assertIs(is_names(("ann", "bob"), 2, 2), True)
        self.assertIs(is_names(("ann", "bob"), 3, 4), False)
        self.assertIs(is_names(("ann", "bob"), 0, 1), False)
        self.assertIs(is_names((), 1, 2), False)
        self.assertIs(is_names((), 0, 0), True)

    def test_rows_of_other_kinds(self):
        for value in (["ann"], "ann", None, True, 3, ("ann", 3), (3, "ann"), (None,), ("",), ("ann", "Bob"), {"ann": 1},
                      (("ann",),), ("abcdefghijklmnopq",)):
            self.assertIs(is_names(value, 0, 9), False)
        for value in ODD_VALUES:
            self.assertIs(is_names(value, 1, 9), value in (("ann",), ("ann", "bob")))


if __name__ == "__main__":
    unittest.main()
