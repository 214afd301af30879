"""Points 12 to 15: the digest, seals and coincidences."""

import hashlib
import random
import unittest
from math import isqrt

from lotshown.digest import constants, digest, is_coincidence, is_seal, seal, start_words
from lotshown.errors import OutOfRange
from lotshown.octets import of_text
from tests.kinds import ODD_VALUES

PRIMES = [n for n in range(2, 312) if all(n % d for d in range(2, n))]


def known(octets):
    return hashlib.sha256(bytes(octets)).hexdigest()


def clash(width, size=2):
    """Return two different octets of this size with one seal of the width."""
    seen = {}
    for number in range(65536):
        octets = (number >> 8, number & 255) + (0,) * (size - 2)
        other = seen.setdefault(known(octets)[:2 * width], octets)
        if other != octets:
            return other, octets


class Digests(unittest.TestCase):
    def test_constants_are_cube_roots(self):
        self.assertEqual(len(constants()), 64)
        self.assertIsInstance(constants(), tuple)
        for word, prime in zip(constants(), PRIMES):
            whole = [n for n in range(8) if n ** 3 <= prime][-1]
            root = (whole << 32) + word
            self.assertTrue(root ** 3 <= prime << 96 < (root + 1) ** 3)
            self.assertTrue(0 <= word < 2 ** 32)

    def test_start_words_are_square_roots(self):
        self.assertEqual(start_words(), tuple(isqrt(prime << 64) % 2 ** 32 for prime in PRIMES[:8]))

    def test_known_digests(self):
        self.assertEqual(digest(()), "e3b0c44298fc1c149afbf4c8996fb92427ae41e4649b934ca495991b7852b855")
        self.assertEqual(digest(of_text("abc")), "ba7816bf8f01cfea414140de5dae2223b00361a396177a9cb410ff61f20015ad")

    def test_lengths(self):
        chance = random.Random(4)
        for length in list(range(0, 131)) + [183, 184, 191, 192, 1000]:
            octets = tuple(chance.randint(0, 255) for _ in range(length))
            self.assertEqual(digest(octets), known(octets))

    def test_a_long_message(self):
        self.assertEqual(digest((97,) * 100000), known((97,) * 100000))


class Seals(unittest.TestCase):
    def test_widths(self):
        for width in (1, 2, 31, 32):
            self.assertEqual(seal(width, (1, 2)), known((1, 2))[:2 * width])

    def test_widths_that_are_none(self):
        for width in (-1, 0, 33, 64):
            for call in (lambda: seal(width, ()), lambda: is_seal(width, None), lambda: is_coincidence(width, None)):
                with self.assertRaises(OutOfRange):
                    call()

    def test_is_seal(self):
        self.assertIs(is_seal(2, "09af"), True)
        self.assertIs(is_seal(32, known(())), True)
        for value in ("", "09a", "09aff", "09aF", "09ag", "09a ", None, True, 9, b"09af", ("0", "9", "a", "f"), ["09af"],
                      "\u0661\u0661\u0661\u0661", (0, 9, 10, 15)):
            self.assertIs(is_seal(2, value), False)
        for value in ODD_VALUES:
            self.assertIs(is_seal(1, value), False)

    def test_coincidences(self):
        one, other = clash(1)
        self.assertIs(is_coincidence(1, (one, other)), True)
        self.assertIs(is_coincidence(1, (other, one)), True)
        self.assertIs(is_coincidence(32, (one, other)), False)
        one, other = clash(2)
        self.assertIs(is_coincidence(2, (one, other)), True)
        self.assertIs(is_coincidence(1, (one, other)), True)

    def test_coincidences_of_long_octets(self):
        self.assertIs(is_coincidence(1, clash(1, 100000)), True)
        self.assertIs(is_coincidence(1, clash(1, 100001)), False)

    def test_no_coincidences(self):
        one, other = clash(1)
        for value in ((one, one), [one, other], (one, list(other)), (list(one), other), (one,), (one, other, one), one,
                      (one, None), None, True, (), (one, "a"), ((True,) + one, other), ((256,), other), (one, (0,) * 100001)):
            self.assertIs(is_coincidence(1, value), False)
        for value in ODD_VALUES:
            self.assertIs(is_coincidence(32, value), False)


if __name__ == "__main__":
    unittest.main()
