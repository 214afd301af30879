"""Point 16: salts, promises and what opens them."""

import hashlib
import unittest

from lotshown.errors import OutOfRange
from lotshown.octets import packed
from lotshown.promises import is_salt, opens, promise, promise_input
from tests.kinds import ODD_VALUES

SALT = tuple(range(16))


def known(salt, value):
    message = (1, 0, 0, 0, len(salt)) + salt + (0, 0, len(value) >> 8, len(value) & 255) + value
    return hashlib.sha256(bytes(message)).hexdigest()


class Promises(unittest.TestCase):
    def test_salts(self):
        for length, right in ((0, False), (15, False), (16, True), (64, True), (65, False)):
            self.assertIs(is_salt((255,) * length), right)
        for value in ([1] * 16, "a" * 16, b"a" * 16, (True,) * 16, (256,) * 16, (None,) * 16, (-1,) * 16):
            self.assertIs(is_salt(value), False)
        for value in ODD_VALUES:
            self.assertIs(is_salt(value), False)

    def test_promise(self):
        self.assertEqual(promise_input(SALT, (5, 6)), (1, 0, 0, 0, 16) + SALT + (0, 0, 0, 2, 5, 6))
        self.assertEqual(promise_input(SALT, ()), (1,) + packed([SALT, ()]))
        for width in (1, 16, 32):
            for value in ((), (5, 6), (9,) * 10000):
                self.assertEqual(promise(width, SALT, value), known(SALT, value)[:2 * width])

    def test_what_opens(self):
        for salt in (SALT, (0,) * 64):
            for value in ((), (0,), (7,) * 10000):
                for width in (4, 32):
                    self.assertIs(opens(width, promise(width, salt, value), salt, value), True)

    def test_what_does_not_open(self):
        given = promise(32, SALT, (5, 6))
        for salt, value in ((SALT, (5, 7)), (SALT, (5, 6, 0)), (SALT, (5,)), (SALT + (5,), (6,)), (SALT[:-1] + (9,), (5, 6)),
                            (SALT, [5, 6]), (list(SALT), (5, 6)), (SALT, None), (None, (5, 6)), (SALT, "56"), (True, True),
                            (SALT, (5, 6.0)), (SALT, (True, 6)), (SALT, 5)):
            self.assertIs(opens(32, given, salt, value), False)
        self.assertIs(opens(31, given, SALT, (5, 6)), False)
        self.assertIs(opens(32, given[:-1] + "x", SALT, (5, 6)), False)
        for value in ODD_VALUES:
            self.assertIs(opens(32, given, SALT, value), False)
            self.assertIs(opens(32, given, value, (5, 6)), False)

    def test_bounds_of_what_opens(self):
        for salt, value in ((SALT[:15], ()), ((0,) * 65, ()), (SALT, (7,) * 10001)):
            self.assertIs(opens(32, known(salt, value), salt, value), False)

    def test_widths_that_are_none(self):
        for width in (0, 33, -1):
            with self.assertRaises(OutOfRange):
                promise(width, SALT, ())
            with self.assertRaises(OutOfRange):
                opens(width, "", None, None)


if __name__ == "__main__":
    unittest.main()
