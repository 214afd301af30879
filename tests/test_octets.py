"""Points 10 and 11: octets and packings."""

import random
import unittest

from lotshown.errors import Malformed, OutOfRange
from lotshown.octets import hexed, is_octets, number_of, of_number, of_text, packed, unhexed, unpacked
from tests.kinds import ODD_VALUES


class Octets(unittest.TestCase):
    def test_octets(self):
        self.assertIs(is_octets((), 0), True)
        self.assertIs(is_octets((0, 255), 2), True)
        self.assertIs(is_octets((0, 255), 1), False)
        self.assertIs(is_octets((7,) * 100000, 100000), True)
        self.assertIs(is_octets((7,) * 100001, 100000), False)
        self.assertIs(is_octets((7,) * 100001, 200000), False)

    def test_no_octets(self):
        for value in ((256,), (-1,), (True,), (0, False), (None,), ("a",), (1.0,), [1], b"a", "a", None, True, 1, ((1,),), {}):
            self.assertIs(is_octets(value, 100), False)
        for value in ODD_VALUES:
            right = value in ((), (1,), (1, 2), (2, 4), (0, 2), (1, 2, 3)) and True not in [part is True for part in value or ()]
            self.assertIs(is_octets(value, 100), right and isinstance(value, tuple), value)

    def test_numbers(self):
        for number, size, octets in ((0, 0, ()), (0, 1, (0,)), (255, 1, (255,)), (256, 2, (1, 0)), (5, 4, (0, 0, 0, 5)),
                                     (66051, 3, (1, 2, 3)), (256 ** 64 - 1, 64, (255,) * 64)):
            self.assertEqual(of_number(number, size), octets)
            self.assertEqual(number_of(octets), number)

    def test_numbers_that_do_not_fit(self):
        for number, size in ((1, 0), (256, 1), (65536, 2), (256 ** 64, 64), (-1, 1), (-1, 0)):
            with self.assertRaises(OutOfRange):
                of_number(number, size)

    def test_sizes_that_are_none(self):
        for size in (-1, 65, 1000):
            with self.assertRaises(OutOfRange):
                of_number(0, size)

    def test_long_numbers(self):
        chance = random.Random(3)
        for length in (63, 64, 65, 127, 128, 129, 1000, 100000):
            octets = tuple(chance.randint(0, 255) for _ in range(length))
            self.assertEqual(number_of(octets), int.from_bytes(bytes(octets), "big"))

    def test_texts(self):
        self.assertEqual(of_text(""), ())
        self.assertEqual(of_text("slip 7"), (115, 108, 105, 112, 32, 55))
        self.assertEqual(of_text("\x00\x7f"), (0, 127))
        for text in ("\x80", "a\u00e4", "\u20ac"):
            with self.assertRaises(Malformed):
                of_text(text)

    def test_hex(self):
        for octets, text in (((), ""), ((0,), "00"), ((1, 35, 255), "0123ff"), ((16, 171), "10ab")):
            self.assertEqual(hexed(octets), text)
            self.assertEqual(unhexed(text), octets)
        whole = tuple(range(256))
        self.assertEqual(hexed(whole), bytes(whole).hex())
        self.assertEqual(unhexed(hexed(whole)), whole)

    def test_as_many_octets_as_there_may_be(self):
        self.assertEqual(unhexed("0a" * 100000), (10,) * 100000)
        with self.assertRaises(Malformed):
            unhexed("0a" * 100001)

    def test_wrong_hex(self):
        for text in ("0", "abc", "0g", "AB", "aB", "0x", " 1", "1 ", "+1", "\u0661\u0661", "00\n", "-1", "00" * 100000 + "00"):
            with self.assertRaises(Malformed):
                unhexed(text)


class Packings(unittest.TestCase):
    def test_packed(self):
        self.assertEqual(packed([]), ())
        self.assertEqual(packed([()]), (0, 0, 0, 0))
        self.assertEqual(packed([(7, 8), (), (9,)]), (0, 0, 0, 2, 7, 8, 0, 0, 0, 0, 0, 0, 0, 1, 9))
        self.assertEqual(packed([(1,) * 300])[:5], (0, 0, 1, 44, 1))

    def test_unpacked(self):
        for parts in ([], [()], [(), ()], [(1, 2, 3)], [(0, 0, 0, 1), (5,) * 300, ()]):
            self.assertEqual(unpacked(packed(parts)), parts)

    def test_cut_and_lengthened(self):
        whole = packed([(7, 8), (9,)])
        for length in range(1, len(whole)):
            if length != 6:
                with self.assertRaises(Malformed):
                    unpacked(whole[:length])
        self.assertEqual(unpacked(whole[:6]), [(7, 8)])
        for more in ((0,), (0, 0, 0), (0, 0, 0, 1), (255, 255, 255, 255)):
            with self.assertRaises(Malformed):
                unpacked(whole + more)

    def test_lists_stay_as_they_were(self):
        parts = [(1,), (2, 3)]
        packed(parts)
        self.assertEqual(parts, [(1,), (2, 3)])


if __name__ == "__main__":
    unittest.main()
