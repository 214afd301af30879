"""Points 19 to 22: extensions, absences, and what contradictory papers show."""

import unittest

from lotshown.books import absence, absence_inputs, extends, extension, extension_inputs, is_absent, is_sorted
from lotshown.digest import is_coincidence, seal
from lotshown.errors import OutOfRange, Refused
from lotshown.groves import coincidence, inputs, paper, root, shows
from tests.kinds import ODD_VALUES


def book(size):
    return tuple((10 * place + 5, place) for place in range(size))


def node(width, left, right):
    return (4,) + tuple(bytes.fromhex(left + right))


def cut(size):
    k = 1
    while 2 * k < size:
        k *= 2
    return k


def known_extension(width, entries, old, marked):
    """Follow point 19 word by word."""
    if old == len(entries):
        return () if marked else (root(width, entries),)
    k = cut(len(entries))
    if old <= k:
        return known_extension(width, entries[:k], old, marked) + (root(width, entries[k:]),)
    return known_extension(width, entries[k:], old - k, False) + (root(width, entries[:k]),)


class Extensions(unittest.TestCase):
    def test_by_hand(self):
        entries = book(7)
        leaves = [root(4, entries[at:at + 1]) for at in range(7)]
        pair = root(4, entries[4:6])
        self.assertEqual(extension(4, entries, 3), (leaves[2], leaves[3], root(4, entries[:2]), root(4, entries[4:])))
        self.assertEqual(extension(4, entries, 4), (root(4, entries[4:]),))
        self.assertEqual(extension(4, entries, 6), (pair, leaves[6], root(4, entries[:4])))
        self.assertEqual(extension(4, entries, 1), (leaves[1], root(4, entries[2:4]), root(4, entries[4:])))
        self.assertEqual(extension(4, entries, 7), ())

    def test_each_number_of_old_entries_holds(self):
        for size in range(1, 10):
            entries = book(size)
            for old in range(1, size + 1):
                told = extension(32, entries, old)
                self.assertEqual(told, known_extension(32, entries, old, True))
                self.assertIs(extends(32, root(32, entries[:old]), old, root(32, entries), size, told), True)

    def test_numbers_of_old_entries_that_are_none(self):
        for size in (0, 1, 5):
            for old in (-1, 0, size + 1, size + 5):
                with self.assertRaises(OutOfRange):
                    extension(32, book(size), old)

    def test_widths_that_are_none(self):
        for width in (0, 33):
            for call in (lambda: extension(width, (), 7), lambda: extends(width, "", 0, "", 0, None),
                         lambda: extension_inputs(width, "00", 1, 1, ()), lambda: absence(width, ((2,), (1,)), (1,)),
                         lambda: is_absent(width, "", -1, (), None), lambda: absence_inputs(width, 0, (), (0, None, None))):
                with self.assertRaises(OutOfRange):
                    call()

    def test_wrong_extensions(self):
        for size in range(1, 10):
            entries = book(size)
            top = root(4, entries)
            for old in range(1, size + 1):
                begin = root(4, entries[:old])
                for wrong in self.changed(extension(4, entries, old)):
                    self.assertIs(extends(4, begin, old, top, size, wrong), False)

    def changed(self, told):
        other = seal(4, (99,))
        rows = [list(told), told + (other,), (other,) + told, None, "", told + (None,), {}, True]
        for at in range(len(told)):
            rows.append(told[:at] + told[at + 1:])
            for mark in (other, told[at] + "00", told[at][:-2], told[at].upper() + " ", None, 5, list(told[at])):
                rows.append(told[:at] + (mark,) + told[at + 1:])
        for at in range(len(told) - 1):
            rows.append(told[:at] + (told[at + 1], told[at]) + told[at + 2:])
        return rows

    def test_any_kind(self):
        entries = book(3)
        for value in ODD_VALUES:
            self.assertIs(extends(4, root(4, entries[:2]), 2, root(4, entries), 3, value), False)
            right = value == () and isinstance(value, tuple)
            self.assertIs(extends(4, root(4, entries), 3, root(4, entries), 3, value), right)

    def test_other_roots_and_sizes(self):
        entries = book(9)
        for old in range(1, 9):
            told = extension(8, entries, old)
            begin = root(8, entries[:old])
            top = root(8, entries)
            other = root(8, ((7,),))
            for roots in ((other, top), (begin, other), (top, begin), ("", top), ("zz" * 8, top), (begin + "00", top), (begin, "")):
                self.assertIs(extends(8, roots[0], old, roots[1], 9, told), False)
            for wrong in (-1, 0, old + 1, old - 1, 9, 10, True, None):
                if wrong is True or wrong != old:
                    right = wrong == 8 and old == 9
                    self.assertIs(extends(8, begin, wrong, top, 9, told), right, (old, wrong))
            for wrong in (-1, 0, old, 4097, 17, True):
                self.assertIs(extends(8, begin, old, top, wrong, told), False, (old, wrong))

    def test_equal_sizes(self):
        one, other = root(8, book(4)), root(8, book(5))
        self.assertIs(extends(8, one, 4, one, 4, ()), True)
        self.assertIs(extends(8, one, 4, other, 4, ()), False)
        self.assertIs(extends(8, "some text", 4, "some text", 4, ()), False)
        self.assertIs(extends(8, one, 4096, one, 4096, ()), True)
        self.assertIs(extends(8, one, 4097, one, 4097, ()), False)

    def test_inputs_in_their_order(self):
        entries = book(7)
        told = extension(4, entries, 3)
        leaf, side, two, four = told
        old_inputs = [node(4, two, leaf)]
        low = node(4, leaf, side)
        middle = node(4, two, seal(4, low))
        new_inputs = [low, middle, node(4, seal(4, middle), four)]
        self.assertEqual(extension_inputs(4, root(4, entries[:3]), 3, 7, told), old_inputs + new_inputs)
        told = extension(4, entries, 2)
        first = node(4, root(4, entries[:2]), told[0])
        self.assertEqual(extension_inputs(4, root(4, entries[:2]), 2, 7, told), [first, node(4, seal(4, first), told[1])])
        self.assertEqual(extension_inputs(4, root(4, entries), 7, 7, ()), [])

    def test_the_last_inputs_are_those_of_the_roots(self):
        for size in range(2, 10):
            for old in range(1, size):
                entries = book(size)
                begin, told = root(4, entries[:old]), extension(4, entries, old)
                row = [seal(4, octets) for octets in extension_inputs(4, begin, old, size, told)]
                self.assertEqual(row[-1], root(4, entries))
                if old not in (1, 2, 4, 8):
                    self.assertIn(begin, row[:-1])

    def test_an_extension_against_two_papers(self):
        found = 0
        for old, size in ((1, 2), (2, 5), (3, 5), (4, 7), (5, 8), (6, 7)):
            entries = book(size)
            begin, top, told = root(1, entries[:old]), root(1, entries), extension(1, entries, old)
            for place in range(old):
                before = paper(1, entries[:old], place)
                for number in range(300):
                    other = (number >> 8, number & 255, 9)
                    if shows(1, begin, old, place, other, before):
                        found += 1
                        row = inputs(1, old, place, other, before)
                        row = row + inputs(1, size, place, entries[place], paper(1, entries, place))
                        row = row + extension_inputs(1, begin, old, size, told)
                        self.assertTrue(is_coincidence(1, coincidence(1, row)))
        self.assertGreater(found, 5)


class Absences(unittest.TestCase):
    def test_is_sorted(self):
        for entries in ((), ((),), ((), (0,)), ((1,), (1, 0), (2,)), book(9)):
            self.assertIs(is_sorted(entries), True)
        for entries in (((1,), (1,)), ((2,), (1,)), ((1, 0), (1,)), book(5) + ((0,),), ((0,), ())):
            self.assertIs(is_sorted(entries), False)

    def test_each_place(self):
        for size in range(0, 10):
            entries = book(size)
            for place in range(size + 1):
                entry = (10 * place,)
                left = None if place == 0 else (entries[place - 1], paper(16, entries, place - 1))
                right = None if place == size else (entries[place], paper(16, entries, place))
                told = absence(16, entries, entry)
                self.assertEqual(told, (place, left, right))
                self.assertIs(is_absent(16, root(16, entries), size, entry, told), True)

    def test_refused(self):
        with self.assertRaises(Refused):
            absence(16, book(5), book(5)[2])
        for entries in (((2,), (1,)), ((1,), (1,))):
            with self.assertRaises(Refused):
                absence(16, entries, (7,))

    def test_the_empty_book(self):
        empty = root(16, ())
        self.assertEqual(absence(16, (), (7,)), (0, None, None))
        self.assertIs(is_absent(16, empty, 0, (7,), (0, None, None)), True)
        self.assertIs(is_absent(16, root(16, book(1)), 0, (7,), (0, None, None)), False)
        self.assertIs(is_absent(16, empty, 1, (7,), (0, None, None)), False)
        for wrong in ((1, None, None), (False, None, None), [0, None, None], (0, None), (0, ((1,), ()), None), (0, None, ((9,), ()))):
            self.assertIs(is_absent(16, empty, 0, (7,), wrong), False)

    def test_all_is_changed(self):
        entries = book(5)
        top = root(16, entries)
        for place in range(6):
            entry = (10 * place,)
            told = absence(16, entries, entry)
            for wrong in self.changed(entries, told):
                self.assertIs(is_absent(16, top, 5, entry, wrong), False, wrong)
            for size in (-1, 0, 4, 9, 4097, True, None):
                self.assertIs(is_absent(16, top, size, entry, told), False)
            for other in (root(16, book(6)), "", root(16, ())):
                self.assertIs(is_absent(16, other, 5, entry, told), False)
            for at in range(6):
                self.assertIs(is_absent(16, top, 5, (10 * at,), told), at == place)
            for at in range(5):
                self.assertIs(is_absent(16, top, 5, entries[at], told), False)

    def changed(self, entries, told):
        place, left, right = told
        rows = [list(told), told[:2], told + (None,), None, True, "", (), (None, left, right), (True, left, right)]
        rows += [(-1, None, None), (0, None, None), (5, None, None), (6, None, None)]
        rows += [(place + step, left, right) for step in (-1, 1, 2)]
        sides = [((at,), paper(16, entries, 0)) for at in range(2)]
        sides += [(entry, paper(16, entries, at)) for at, entry in enumerate(entries)] + [None, True, (), [], "ab"]
        rows += [(place, side, right) for side in sides if side != left]
        rows += [(place, left, side) for side in sides if side != right]
        for at, side in ((1, left), (2, right)):
            if side is not None:
                entry, told_paper = side
                for other in (list(side), side[:1], side + (None,), (list(entry), told_paper), (entry, list(told_paper)),
                              (entry, None), (None, told_paper), (entry, told_paper[1:]), (entry, told_paper + told_paper[:1]),
                              (entry + (0,), told_paper), ((300,), told_paper), ("a", told_paper), (entry, told_paper[::-1][1:])):
                    row = [place, left, right]
                    row[at] = other
                    rows.append(tuple(row))
        return rows

    def test_any_kind(self):
        for value in ODD_VALUES:
            self.assertIs(is_absent(16, root(16, book(3)), 3, (7,), value), False)
            right = value == (0, None, None) and isinstance(value, tuple)
            self.assertIs(is_absent(16, root(16, ()), 0, (7,), value), right)

    def test_long_entries(self):
        for length in (10000, 10001):
            entries = ((5,) * length,)
            told = (1, (entries[0], ()), None)
            self.assertIs(is_absent(16, root(16, entries), 1, (7,), told), length == 10000)

    def test_inputs_in_their_order(self):
        entries = book(5)
        for place in range(6):
            row = []
            if place > 0:
                row += inputs(16, 5, place - 1, entries[place - 1], paper(16, entries, place - 1))
            if place < 5:
                row += inputs(16, 5, place, entries[place], paper(16, entries, place))
            told = absence(16, entries, (10 * place,))
            self.assertEqual(absence_inputs(16, 5, (10 * place,), told), row)
        self.assertEqual(absence_inputs(16, 0, (7,), (0, None, None)), [])

    def test_a_paper_against_an_absence(self):
        found = 0
        for size in (1, 2, 3, 5):
            entries = book(size)
            top = root(1, entries)
            for number in range(600):
                entry = (number % 60, number // 60, 3)
                told = absence(1, entries, entry)
                for place in range(size):
                    told_paper = paper(1, entries, place)
                    if shows(1, top, size, place, entry, told_paper):
                        found += 1
                        row = inputs(1, size, place, entry, told_paper) + absence_inputs(1, size, entry, told)
                        first = coincidence(1, row)
                        if first is None:
                            self.assertTrue(self.is_disorder(told, place, entry))
                        else:
                            self.assertTrue(is_coincidence(1, first))
        self.assertGreater(found, 5)

    def is_disorder(self, told, place, entry):
        behind, left, right = told
        return place < behind - 1 and entry > left[0] or place > behind and entry < right[0]

    def test_a_disorder(self):
        entries = ((1,), (9,), (5,))
        top = root(32, entries)
        told = (1, (entries[0], paper(32, entries, 0)), (entries[1], paper(32, entries, 1)))
        self.assertIs(is_absent(32, top, 3, (5,), told), True)
        self.assertIs(shows(32, top, 3, 2, (5,), paper(32, entries, 2)), True)


if __name__ == "__main__":
    unittest.main()
