"""Points 8 and 9: words, lines, number words and sheets."""

import unittest

from lotshown.errors import Malformed, OutOfRange, Refused, TooMuch
from lotshown.lines import is_word, line_of, number_of, number_word, read_sheet, words_of, write_sheet
from tests.kinds import ODD_VALUES


class Words(unittest.TestCase):
    def test_words(self):
        for value in ("a", "z", "0", "9", "-/.,:+=#_", "a" * 80, "#", "-12"):
            self.assertIs(is_word(value), True)

    def test_each_sign(self):
        for code in range(0, 260):
            right = chr(code) in "abcdefghijklmnopqrstuvwxyz0123456789-/.,:+=#_"
            self.assertIs(is_word("a" + chr(code)), right)

    def test_no_words(self):
        for value in ("", "a" * 81, "A", "a b", " ", "a\n", "\u00e4", "\u0661", b"a", ("a",), ["a"], None, True, 1):
            self.assertIs(is_word(value), False)
        for value in ODD_VALUES:
            self.assertIs(is_word(value), isinstance(value, str) and value != "")


class Lines(unittest.TestCase):
    def test_lines_of_words(self):
        for words in (["a"], ["sell", "t1", "12"], ["a"] * 20, ["a" * 80] * 20, ["#", "a"]):
            self.assertEqual(line_of(words), " ".join(words))
            self.assertEqual(words_of(" ".join(words)), words)

    def test_no_lines(self):
        for words in ([], ["a"] * 21, [""], ["a", ""], ["a b"], ["a" * 81], ["A"], [None], [True], [1], ["a", ["b"]], [("a",)]):
            with self.assertRaises(Malformed):
                line_of(words)

    def test_texts_that_are_no_lines(self):
        for text in ("", " ", " a", "a ", "a  b", "a\n", "a\tb", "a b\n", " ".join(["a"] * 21), "a" * 81, "b " + "a" * 81, "A"):
            with self.assertRaises(Malformed):
                words_of(text)

    def test_the_list_stays_as_it_was(self):
        words = ["a", "b"]
        line_of(words)
        self.assertEqual(words, ["a", "b"])


class NumberWords(unittest.TestCase):
    def test_both_ways(self):
        for number in (0, 7, -12, 10 ** 19, 10 ** 20 - 1, 1 - 10 ** 20, -1):
            self.assertEqual(number_word(number), str(number))
            self.assertEqual(number_of(str(number)), number)

    def test_too_many_figures(self):
        for number in (10 ** 20, -10 ** 20, 10 ** 5000):
            with self.assertRaises(OutOfRange):
                number_word(number)

    def test_other_texts(self):
        for text in ("", "-", "-0", "00", "07", "-07", "+1", " 1", "1 ", "1.0", "a", "1a", "--1", "1_0", "\u0661", "1\n",
                     "1" + "0" * 20, "-1" + "0" * 20, "9" * 5000):
            with self.assertRaises(Malformed, msg=text):
                number_of(text)


class Sheets(unittest.TestCase):
    def test_the_example(self):
        self.assertEqual(read_sheet("sell t1 12\n\n#\nsell  t1"), ([(1, ["sell", "t1", "12"])], [(2, "blank"), (4, "space")]))

    def test_ends_of_the_text(self):
        self.assertEqual(read_sheet(""), ([], []))
        self.assertEqual(read_sheet("\n"), ([], [(1, "blank")]))
        self.assertEqual(read_sheet("\n\n"), ([], [(1, "blank"), (2, "blank")]))
        self.assertEqual(read_sheet("a"), ([(1, ["a"])], []))
        self.assertEqual(read_sheet("a\n"), ([(1, ["a"])], []))
        self.assertEqual(read_sheet("a\n\n"), ([(1, ["a"])], [(2, "blank")]))
        self.assertEqual(read_sheet("\na"), ([(2, ["a"])], [(1, "blank")]))

    def test_each_reason(self):
        rows = (
            ("", "blank"), ("A", "sign"), ("a\tb", "sign"), ("a\r", "sign"), ("a\x0bb", "sign"), ("\u00e4", "sign"),
            ("a\u2028b", "sign"), (" ", "space"), (" a", "space"), ("a ", "space"), ("a  b", "space"), ("a" * 81, "long"),
            (" ".join(["a"] * 21), "long"), (" #", "space"),
        )
        for row, reason in rows:
            self.assertEqual(read_sheet(row + "\n"), ([], [(1, reason)]), row)

    def test_the_first_reason(self):
        rows = (
            (" A", "sign"), ("a  B", "sign"), ("A" * 81, "sign"), ("A " + "a" * 81, "sign"), (" " + "a" * 81, "space"),
            ("a" * 81 + " ", "space"), (" ".join(["a"] * 21) + " ", "space"), ("  " + "%", "sign"),
        )
        for row, reason in rows:
            self.assertEqual(read_sheet("x\n" + row + "\n"), ([(1, ["x"])], [(2, reason)]), row)

    def test_bounds_of_a_row(self):
        row = " ".join(["a" * 80] * 20)
        self.assertEqual(read_sheet(row), ([(1, ["a" * 80] * 20)], []))

    def test_remarks(self):
        self.assertEqual(read_sheet("#\n# A  b \n#a\n" + "#" * 90 + "\na #b\n##"), ([(5, ["a", "#b"])], []))

    def test_signs_of_a_sheet(self):
        self.assertEqual(read_sheet("\n" * 100000)[1][-1], (100000, "blank"))
        self.assertEqual(read_sheet("#" * 100000), ([], []))
        for text in ("\n" * 100001, "#" * 100001, "A" * 100001):
            with self.assertRaises(TooMuch):
                read_sheet(text)

    def test_write(self):
        self.assertEqual(write_sheet([]), "")
        self.assertEqual(write_sheet([["sell", "t1"], ["a", "#"]]), "sell t1\na #\n")
        rows = [["a"] * 20, ["b" * 80]]
        good, bad = read_sheet(write_sheet(rows))
        self.assertEqual((good, bad), ([(1, rows[0]), (2, rows[1])], []))

    def test_write_wrong_rows(self):
        for rows in ([[]], [["a"], []], [["A"]], [["a"] * 21], [["a b"]], [[1]], [[True]], [[None]], [["a"], [""]]):
            with self.assertRaises(Malformed):
                write_sheet(rows)
        for rows in ([["#"]], [["a"], ["#a", "b"]]):
            with self.assertRaises(Refused):
                write_sheet(rows)

    def test_write_signs(self):
        full = [["a"]] * 50000
        self.assertEqual(write_sheet(full), "a\n" * 50000)
        for rows in (full + [["a"]], full[1:] + [["ab"]]):
            with self.assertRaises(TooMuch):
                write_sheet(rows)

    def test_the_order_of_the_errors(self):
        many = [["a"]] * 50001
        with self.assertRaises(Malformed):
            write_sheet([["#"]] + many + [[""]])
        with self.assertRaises(Refused):
            write_sheet(many + [["#"]])
        with self.assertRaises(Malformed):
            write_sheet([["#", "A"]])

    def test_lists_stay_as_they_were(self):
        rows = [["a"], ["b", "c"]]
        write_sheet(rows)
        self.assertEqual(rows, [["a"], ["b", "c"]])
        good, bad = read_sheet("a b\n\n")
        good[0][1].append("c")
        bad.clear()
        self.assertEqual(read_sheet("a b\n\n"), ([(1, ["a", "b"])], [(2, "blank")]))


if __name__ == "__main__":
    unittest.main()
