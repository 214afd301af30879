"""Points 17, 18, 21 and 22: books, roots, papers of places, and coincidences."""

import hashlib
import unittest

from lotshown.digest import is_coincidence, seal
from lotshown.errors import NotThere, OutOfRange
from lotshown.groves import coincidence, inputs, paper, root, shows
from tests.kinds import ODD_VALUES

SIZES = (1, 2, 3, 4, 5, 6, 7, 8, 9, 13)


def book(size):
    return tuple((place, place * 7 % 256, 1) for place in range(size))


def known(octets, width):
    return hashlib.sha256(bytes(octets)).hexdigest()[:2 * width]


def known_root(entries, width):
    if not entries:
        return known((2,), width)
    if len(entries) == 1:
        return known((3,) + entries[0], width)
    k = 1
    while 2 * k < len(entries):
        k *= 2
    halves = known_root(entries[:k], width) + known_root(entries[k:], width)
    return known((4,) + tuple(bytes.fromhex(halves)), width)


class Roots(unittest.TestCase):
    def test_roots(self):
        for size in (0, 1, 2, 3, 4, 5, 8, 9, 64, 100):
            for width in (1, 32):
                self.assertEqual(root(width, book(size)), known_root(book(size), width))

    def test_by_hand(self):
        a, b, c = (1, 2), (), (3,)
        left = seal(8, (4,) + tuple(bytes.fromhex(seal(8, (3, 1, 2)) + seal(8, (3,)))))
        self.assertEqual(root(8, (a, b)), left)
        self.assertEqual(root(8, (a, b, c)), seal(8, (4,) + tuple(bytes.fromhex(left + seal(8, (3, 3))))))

    def test_widths_that_are_none(self):
        for width in (0, 33):
            for call in (lambda: root(width, ()), lambda: root(width, book(3)), lambda: paper(width, (), 5),
                         lambda: shows(width, "", 0, 0, (), None), lambda: inputs(width, 1, 0, (), ()),
                         lambda: coincidence(width, [])):
                with self.assertRaises(OutOfRange):
                    call()


class Papers(unittest.TestCase):
    def test_by_hand(self):
        entries = book(5)
        leaves = [seal(4, (3,) + entry) for entry in entries]
        self.assertEqual(paper(4, entries[:1], 0), ())
        self.assertEqual(paper(4, entries[:2], 1), (leaves[0],))
        self.assertEqual(paper(4, entries, 4), (root(4, entries[:4]),))
        self.assertEqual(paper(4, entries, 2), (leaves[3], root(4, entries[:2]), leaves[4]))
        self.assertEqual(paper(4, entries[:3], 0), (leaves[1], leaves[2]))

    def test_each_place_is_shown(self):
        for size in SIZES:
            entries = book(size)
            for place in range(size):
                told = paper(32, entries, place)
                self.assertIs(shows(32, root(32, entries), size, place, entries[place], told), True)

    def test_no_such_place(self):
        for size in (0, 1, 2, 5):
            for place in (-1, size, size + 1):
                with self.assertRaises(NotThere):
                    paper(32, book(size), place)

    def test_other_places_sizes_entries_and_roots(self):
        entries = book(5)
        top = root(32, entries)
        told = paper(32, entries, 2)
        for place in (-1, 0, 1, 3, 4, 5, True, None):
            self.assertIs(shows(32, top, 5, place, entries[2], told), False)
        for size in (0, -5, 2, 3, 4, 9, 4097, True):
            self.assertIs(shows(32, top, size, 2, entries[2], told), False)
        self.assertIs(shows(32, top, 5, 2, entries[3], told), False)
        self.assertIs(shows(32, root(32, book(6)), 5, 2, entries[2], told), False)
        self.assertIs(shows(32, "", 5, 2, entries[2], told), False)
        self.assertIs(shows(32, top, 5, 2, entries[2], told), True)

    def test_places_just_beyond_the_ends(self):
        for size in SIZES:
            entries = book(size)
            top = root(32, entries)
            self.assertIs(shows(32, top, size, -1, entries[0], paper(32, entries, 0)), False)
            self.assertIs(shows(32, top, size, size, entries[-1], paper(32, entries, size - 1)), False)

    def test_sizes_at_the_bound(self):
        told = tuple(seal(32, (number,)) for number in range(12))
        top = seal(32, inputs(32, 4096, 4095, (5,), told)[-1])
        self.assertIs(shows(32, top, 4096, 4095, (5,), told), True)
        top = seal(32, inputs(32, 4097, 4096, (5,), told[:1])[-1])
        self.assertIs(shows(32, top, 4097, 4096, (5,), told[:1]), False)
        self.assertIs(shows(32, seal(32, (3, 5)), 0, 0, (5,), ()), False)

    def test_wrong_papers(self):
        for size in (1, 2, 3, 5, 8):
            entries = book(size)
            top = root(4, entries)
            for place in range(size):
                told = paper(4, entries, place)
                wrong = [list(told), told + (top,), (top,) + told, None, True, 5, "", told + (None,)]
                for at in range(len(told)):
                    wrong.append(told[:at] + told[at + 1:])
                    wrong.append(told[:at] + (seal(4, (at,)),) + told[at + 1:])
                    wrong.append(told[:at] + (told[at] + "00",) + told[at + 1:])
                    wrong.append(told[:at] + (told[at][:6],) + told[at + 1:])
                    wrong.append(told[:at] + (told[at].upper() + "A",) + told[at + 1:])
                    wrong.append(told[:at] + (None,) + told[at + 1:])
                    wrong.append(told[:at] + (list(told[at]),) + told[at + 1:])
                for at in range(len(told) - 1):
                    wrong.append(told[:at] + (told[at + 1], told[at]) + told[at + 2:])
                for value in wrong:
                    self.assertIs(shows(4, top, size, place, entries[place], value), False)
                for value in ODD_VALUES:
                    right = value == () and isinstance(value, tuple) and size == 1
                    self.assertIs(shows(4, top, size, place, entries[place], value), right)

    def test_entry_and_inner_seals_are_marked_apart(self):
        entries = book(2)
        inner = inputs(32, 2, 0, entries[0], paper(32, entries, 0))[1]
        self.assertIs(shows(32, root(32, entries), 1, 0, inner[1:], ()), False)


class Inputs(unittest.TestCase):
    def test_order(self):
        entries = book(5)
        told = paper(3, entries, 2)
        leaf = (3,) + entries[2]
        first = (4,) + tuple(bytes.fromhex(seal(3, leaf) + told[0]))
        second = (4,) + tuple(bytes.fromhex(told[1] + seal(3, first)))
        third = (4,) + tuple(bytes.fromhex(seal(3, second) + told[2]))
        self.assertEqual(inputs(3, 5, 2, entries[2], told), [leaf, first, second, third])
        self.assertEqual(seal(3, third), root(3, entries))
        self.assertEqual(inputs(3, 1, 0, (7,), ()), [(3, 7)])

    def test_first_coincidence(self):
        same = {}
        for number in range(2000):
            same.setdefault(seal(1, (number >> 8, number & 255)), []).append((number >> 8, number & 255))
        (a, b, c), (x, y) = [row[:3] for row in same.values() if len(row) > 2][0], list(same.values())[1][:2]
        if x in (a, b, c):
            x, y = list(same.values())[2][:2]
        self.assertEqual(coincidence(1, [a, b]), (a, b))
        self.assertEqual(coincidence(1, [b, a]), (b, a))
        self.assertEqual(coincidence(1, [a, b, c]), (a, b))
        self.assertEqual(coincidence(1, [a, a, x, a, c, b, y]), (a, c))
        self.assertEqual(coincidence(1, [a, x, y, b]), (x, y))
        self.assertEqual(coincidence(1, [x, a, b, y]), (a, b))
        for row in ([], [a], [a, a], [a, x], [a, x, a, x]):
            self.assertIsNone(coincidence(1, row))
        self.assertIsNone(coincidence(32, [a, b, c, x, y]))

    def test_the_list_stays_as_it_was(self):
        row = [(1,), (2,)]
        coincidence(32, row)
        self.assertEqual(row, [(1,), (2,)])
        told = paper(32, book(3), 0)
        first = inputs(32, 3, 0, book(3)[0], told)
        first.clear()
        self.assertEqual(len(inputs(32, 3, 0, book(3)[0], told)), 3)

    def test_two_papers_that_contradict_each_other(self):
        found = 0
        for size in (1, 2, 3, 5):
            entries = book(size)
            top = root(1, entries)
            for place in range(size):
                told = paper(1, entries, place)
                for number in range(500):
                    other = (number >> 8, number & 255, 77)
                    if shows(1, top, size, place, other, told):
                        found += 1
                        both = inputs(1, size, place, entries[place], told) + inputs(1, size, place, other, told)
                        self.assertTrue(is_coincidence(1, coincidence(1, both)))
        self.assertGreater(found, 10)


if __name__ == "__main__":
    unittest.main()
