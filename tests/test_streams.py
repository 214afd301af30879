"""Points 110 and 111: the octets and digits of a seed's stream."""

import unittest

from lotshown.errors import NotThere, OutOfRange
from lotshown.streams import block, digits, is_seed, stream
from tests.kinds import ODD_VALUES
from tests.seeds import plain_block, plain_stream

SEEDS = ((0,), (255,), (1, 2, 3), tuple(range(64)), (7,) * 63)


class Seeds(unittest.TestCase):
    def test_seeds(self):
        for value, right in (((), False), ((0,), True), ((5,) * 64, True), ((5,) * 65, False), ((256,), False), ((-1,), False),
                             ((255, 0), True), ([1, 2], False), ((True,), False), ((1, False), False), ((1.0,), False), ("a", False),
                             (b"abc", False), ((None,), False), (("1",), False), (((1,),), False)):
            self.assertIs(is_seed(value), right, value)
        for value in ODD_VALUES:
            right = isinstance(value, tuple) and len(value) > 0 and all(type(one) is int and 0 <= one < 256 for one in value)
            self.assertIs(is_seed(value), right, value)


class Blocks(unittest.TestCase):
    def test_blocks(self):
        for seed in SEEDS:
            for number in (0, 1, 255, 256, 2 ** 32, 10 ** 15 - 1, 10 ** 15):
                self.assertEqual(block(seed, number), plain_block(seed, number))

    def test_out_of_range(self):
        for number in (-1, 10 ** 15 + 1, 10 ** 16, -10 ** 15, 2 ** 64):
            with self.assertRaises(OutOfRange):
                block((1,), number)


class Streams(unittest.TestCase):
    def test_streams(self):
        for seed in SEEDS:
            for count in (0, 1, 31, 32, 33, 63, 64, 65, 200):
                self.assertEqual(stream(seed, count), plain_stream(seed, count))
        self.assertEqual(stream((1, 2), 64), block((1, 2), 0) + block((1, 2), 1))

    def test_counts(self):
        found = stream((9,), 100000)
        self.assertEqual(len(found), 100000)
        self.assertEqual(found[-40:], plain_stream((9,), 100000)[-40:])
        for count in (-1, 100001, 10 ** 9):
            with self.assertRaises(OutOfRange):
                stream((9,), count)
            for base in (2, 4, 16, 256):
                with self.assertRaises(OutOfRange):
                    digits((9,), base, count)

    def test_digits(self):
        for seed in SEEDS:
            octets = plain_stream(seed, 100)
            bits = "".join(format(octet, "08b") for octet in octets)
            for base, size in ((2, 1), (4, 2), (16, 4), (256, 8)):
                row = tuple(int(bits[at:at + size], 2) for at in range(0, len(bits), size))
                for count in (0, 1, 2, 3, 31, 32, 33, 63, 64, 65, 99, 100):
                    self.assertEqual(digits(seed, base, count), row[:count])
                # Across the end of the first block.
                for count in (256 // size - 1, 256 // size, 256 // size + 1, len(row)):
                    self.assertEqual(digits(seed, base, count), row[:count])
            self.assertEqual(digits(seed, 256, 100), stream(seed, 100))

    def test_most_digits(self):
        for base, most in ((2, 12500), (4, 25000), (16, 50000)):
            row = digits((3, 4), base, 100000)
            self.assertEqual(len(row), 100000)
            last = plain_stream((3, 4), most)[-1]
            self.assertEqual(row[-1], last % base)

    def test_other_bases(self):
        for base in (3, 0, 1, 8, 10, 32, 64, 128, 255, 257, 65536, -2):
            for count in (0, 5, -1, 100001):
                with self.assertRaises(NotThere):
                    digits((1,), base, count)

    def test_kinds(self):
        self.assertIsInstance(stream((1,), 5), tuple)
        self.assertIsInstance(block((1,), 5), tuple)
        self.assertIsInstance(digits((1,), 2, 5), tuple)


if __name__ == "__main__":
    unittest.main()
