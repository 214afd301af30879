"""Point 2: the error classes."""

import unittest

from lotshown.errors import LotError, Malformed, NotThere, OutOfRange, Refused, TooMuch

KINDS = (OutOfRange, Malformed, NotThere, Refused, TooMuch)


class Errors(unittest.TestCase):
    def test_lot_error_is_a_value_error(self):
        self.assertTrue(issubclass(LotError, ValueError))

    def test_five_classes_directly_below_lot_error(self):
        for kind in KINDS:
            self.assertEqual(kind.__bases__, (LotError,))

    def test_none_is_below_another(self):
        for kind in KINDS:
            for other in KINDS:
                self.assertEqual(issubclass(kind, other), kind is other)

    def test_each_can_be_raised_with_one_text(self):
        for kind in KINDS + (LotError,):
            with self.assertRaises(kind) as caught:
                raise kind("some text")
            self.assertEqual(str(caught.exception), "some text")


if __name__ == "__main__":
    unittest.main()
