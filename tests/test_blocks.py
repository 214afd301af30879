"""Point 41: blocks of numbers, and who may sell what."""

import random
import unittest

from lotshown.blocks import is_blocks, left, may_sell, seller_of
from tests.kinds import ODD_VALUES

TOP = 10 ** 15
BLOCKS = ((0, 10, "ann"), (10, 15, "ann"), (15, 20, "bob"), (25, 30, "ann"))


class Blocks(unittest.TestCase):
    def test_blocks(self):
        for value in ((), ((0, 1, "ann"),), ((0, TOP, "ann"),), ((TOP - 1, TOP, "ann"),), BLOCKS,
                      tuple((at, at + 1, "ann") for at in range(100))):
            self.assertIs(is_blocks(value), True)

    def test_no_blocks(self):
        one = (5, 9, "ann")
        for value in (
            [one], one, (list(one),), ((5, 9),), ((5, 9, "ann", 1),), ((5, 5, "ann"),), ((9, 5, "ann"),), ((-1, 5, "ann"),),
            ((5, TOP + 1, "ann"),), ((TOP, TOP, "ann"),), ((5, 9, "Ann"),), ((5, 9, ""),), ((5, 9, None),), ((True, 9, "ann"),),
            ((0, True, "ann"),), ((False, 9, "ann"),), ((5, "9", "ann"),), ((None, 9, "ann"),), ((5.0, 9, "ann"),),
            (one, (8, 12, "bob")), (one, (5, 9, "ann")), (one, (0, 5, "bob")), (one, (0, 3, "bob")), (one, (5, 6, "bob")),
            (one, None), (None,), tuple((at, at + 1, "ann") for at in range(101)), None, True, 5, "ann", {}, ((0, 9, "ann"), one),
        ):
            self.assertIs(is_blocks(value), False, value)
        self.assertIs(is_blocks((one, (9, 12, "bob"))), True)
        for value in ODD_VALUES:
            self.assertIs(is_blocks(value), value == () and isinstance(value, tuple))

    def test_seller_of(self):
        for number, seller in ((-1, None), (0, "ann"), (9, "ann"), (10, "ann"), (14, "ann"), (15, "bob"), (19, "bob"), (20, None),
                               (24, None), (25, "ann"), (29, "ann"), (30, None), (TOP, None)):
            self.assertEqual(seller_of(BLOCKS, number), seller)
        self.assertEqual(seller_of(((0, TOP, "ann"),), TOP - 1), "ann")
        self.assertIsNone(seller_of((), 0))

    def test_may_sell(self):
        sold = (0, 15, 22, 29)
        for seller in ("ann", "bob", "cid"):
            for number in range(-1, 32):
                right = seller_of(BLOCKS, number) == seller and number not in sold
                self.assertIs(may_sell(BLOCKS, sold, seller, number), right)

    def test_left(self):
        self.assertEqual(left(BLOCKS, (), "ann"), [(0, 15), (25, 30)])
        self.assertEqual(left(BLOCKS, (), "bob"), [(15, 20)])
        self.assertEqual(left(BLOCKS, (), "cid"), [])
        self.assertEqual(left((), (), "ann"), [])
        self.assertEqual(left(BLOCKS, (0, 4, 14, 25, 29), "ann"), [(1, 4), (5, 14), (26, 29)])
        self.assertEqual(left(BLOCKS, (9,), "ann"), [(0, 9), (10, 15), (25, 30)])
        self.assertEqual(left(BLOCKS, (10,), "ann"), [(0, 10), (11, 15), (25, 30)])
        self.assertEqual(left(BLOCKS, (15, 16, 17, 18, 19), "bob"), [])
        self.assertEqual(left(BLOCKS, (3, 4, 22), "ann"), [(0, 3), (5, 15), (25, 30)])
        self.assertEqual(left(((0, 5, "ann"), (5, 7, "ann"), (7, 9, "ann")), (), "ann"), [(0, 9)])
        self.assertEqual(left(((0, TOP, "ann"),), (0, TOP - 1), "ann"), [(1, TOP - 1)])

    def test_left_against_counting(self):
        chance = random.Random(11)
        for _ in range(200):
            ends = sorted(chance.sample(range(30), 6))
            blocks = tuple((ends[at], ends[at + 1], chance.choice(("ann", "bob"))) for at in range(5) if chance.random() < 0.8)
            sold = tuple(sorted(chance.sample(range(30), chance.randint(0, 8))))
            self.assertIs(is_blocks(blocks), True)
            free = [number for number in range(30) if may_sell(blocks, sold, "ann", number)]
            told = left(blocks, sold, "ann")
            self.assertEqual([number for first, behind in told for number in range(first, behind)], free)
            self.assertTrue(all(first < behind for first, behind in told))
            self.assertTrue(all(one[1] < other[0] for one, other in zip(told, told[1:])))


if __name__ == "__main__":
    unittest.main()
