"""Point 12: written and read_sheet."""

import unittest

from shifttape import texts
from shifttape.errors import BadSheet, BadText
from shifttape.texts import read_sheet, written
from tests.helper import refusal

LOW = "abcdefghijklmnopqrstuvwxyz"
HIGH = "ABCDEFGHIJKLMNOPQRSTUVWXYZ"
PLAIN_SIGNS = "".join(chr(code) for code in range(32, 127) if code != 37)

WRITTEN = (
    (("a", "b", None), "a\nb\n-"),
    (("a", "b", 0), "a\nb\n0"),
    (("a", "a", 0), "a\na\n0"),
    (("0123456789", "abcdefghij", 9), "0123456789\nabcdefghij\n9"),
    (("0123456789-", "-9876543210", 10), "0123456789-\n-9876543210\n10"),
    ((LOW, HIGH, 25), f"{LOW}\n{HIGH}\n25"),
    ((LOW, HIGH, 19), f"{LOW}\n{HIGH}\n19"),
    ((LOW, HIGH, 20), f"{LOW}\n{HIGH}\n20"),
    ((LOW, LOW[::-1], None), f"{LOW}\n{LOW[::-1]}\n-"),
    ((" ", "-", None), " \n-\n-"),
    (("-", " ", 0), "-\n \n0"),
    ((" -", "- ", 1), " -\n- \n1"),
    (("a ", " b", 1), "a \n b\n1"),
    ((" ~", "0-", None), " ~\n0-\n-"),
    (("01", "10", 1), "01\n10\n1"),
)


class Written(unittest.TestCase):
    def test_three_rows(self):
        for sheet, text in WRITTEN:
            self.assertEqual(written(sheet), text)

    def test_each_home(self):
        for home in range(26):
            self.assertEqual(written((LOW, HIGH, home)), LOW + "\n" + HIGH + "\n" + str(home))

    def test_bad_sheets(self):
        for sheet in (("", "", None), ("a", "", None), ("aa", "bc", None), ("ab", "cc", 0), ("a", "b", 1),
                      ("a", "b", -1), ("a\n", "bc", None), ("bc", "\na", None), (LOW + "0", HIGH + "0", None)):
            refusal(self, BadSheet, written, sheet)

    def test_kinds(self):
        for sheet, _ in WRITTEN:
            self.assertIs(type(written(sheet)), str)


class ReadSheet(unittest.TestCase):
    def bad(self, text, row):
        self.assertEqual(refusal(self, BadText, read_sheet, text).row, row, repr(text))

    def test_what_is_written(self):
        for sheet, text in WRITTEN:
            self.assertEqual(read_sheet(text), sheet)
            self.assertEqual(read_sheet(written(sheet)), sheet)
            self.assertEqual(written(read_sheet(text)), text)

    def test_each_home_and_size(self):
        for size in range(1, 27):
            for home in (None, *range(size)):
                sheet = (LOW[:size], HIGH[:size], home)
                self.assertEqual(read_sheet(written(sheet)), sheet)

    def test_each_sign(self):
        for sign in PLAIN_SIGNS:
            for sheet in ((sign, sign, None), (sign, "a", 0), ("a", sign, None)):
                self.assertEqual(read_sheet(written(sheet)), sheet)

    def test_kinds(self):
        for sheet, text in WRITTEN:
            told = read_sheet(text)
            self.assertIs(type(told), tuple)
            self.assertEqual([type(part) for part in told], [str, str, type(sheet[2])])

    def test_first_and_second_rows(self):
        for sign in ("\t", "\r", "\x00", "\x1f", "\x7f", "\x80", "\x0b", "\x0c", "\x1c", "\x85", "\u00e9", "\u2028"):
            self.bad(f"a{sign}\nbc\n-", 0)
            self.bad(f"{sign}a\nbc\n-", 0)
            self.bad(f"ab\nc{sign}\n-", 1)
            self.bad(f"ab\n{sign}c\n0", 1)
            self.bad(f"{sign}\n{sign}\n-", 0)

    def test_line_ends_of_two_signs(self):
        self.bad("a\r\nb\r\n-", 0)
        self.bad("a\nb\r\n-", 1)
        self.bad("a\nb\n-\r", 2)

    def test_third_rows(self):
        for row in ("", "00", "01", "09", "+1", "-1", "1-", "--", "-0", " 1", "1 ", " ", "  ", "- ", " -", "100", "000",
                    "010", "1234567890", "a", "1a", "0x", "1.", "1_", "_1", "\u0663", "1\u0663", "\u00b2", "\uff11",
                    "None", "1\t", "\t", "1\r", "---"):
            self.bad(f"ab\ncd\n{row}", 2)
            self.bad(f"{LOW}\n{HIGH}\n{row}", 2)

    def test_a_fourth_row(self):
        for more in ("", "-", "0", "a", "\n", "\nab", "\t"):
            self.bad("ab\ncd\n-\n" + more, 3)
            self.bad("ab\ncd\n1\n" + more, 3)

    def test_rows_that_are_lacking(self):
        self.bad("", 1)
        self.bad("ab", 1)
        self.bad("-", 1)
        self.bad("ab\ncd", 2)
        self.bad("\n", 2)
        self.bad("ab\n", 2)
        self.bad("\nab", 2)
        self.bad("\n\n", 2)

    def test_the_first_bad_row_counts(self):
        self.bad("\t", 0)
        self.bad("a\t\ncd", 0)
        self.bad("ab\nc\t", 1)
        self.bad("a\t\nc\t\n00\nx", 0)
        self.bad("ab\nc\t\n00\nx", 1)
        self.bad("ab\ncd\n00\nx", 2)
        self.bad("ab\ncd\n\n", 2)
        self.bad("\n\n\n\n", 2)
        self.bad("ab\ncd\n-\n\t", 3)

    def test_a_bad_row_ahead_of_a_bad_sheet(self):
        self.bad("aa\nbbb\n01", 2)
        self.bad("aa\nbbb\n9\n", 3)
        self.bad("aa", 1)
        self.bad("aa\nbbb", 2)
        self.bad("aa\nb\t", 1)

    def test_rows_that_give_no_sheet(self):
        for text in ("\n\n-", "\n\n0", "a\n\n-", "\na\n0", "ab\nc\n-", "a\nbc\n0", "aa\nbc\n-", "ab\ncc\n1", "a\nb\n1",
                     "ab\ncd\n2", "ab\ncd\n99", "ab\ncd\n10", LOW + "0\n" + HIGH + "0\n-", f"{LOW}\n{HIGH}\n26",
                     f"{LOW}\n{HIGH}\n99", f"{'a' * 50}\n{'b' * 45}\n-", LOW + "a\n" + HIGH + "A\n0"):
            refusal(self, BadSheet, read_sheet, text)

    def test_blanks_count(self):
        self.assertEqual(read_sheet("a \n b\n-"), ("a ", " b", None))
        refusal(self, BadSheet, read_sheet, "a \nb\n-")
        refusal(self, BadSheet, read_sheet, "a  \nbcd\n-")


class Interface(unittest.TestCase):
    def test_defined_in_the_file(self):
        self.assertEqual(texts.written.__module__, "shifttape.texts")
        self.assertEqual(texts.read_sheet.__module__, "shifttape.texts")

    def test_arguments_by_name(self):
        self.assertEqual(written(sheet=("a", "b", None)), "a\nb\n-")
        self.assertEqual(read_sheet(text="a\nb\n-"), ("a", "b", None))


if __name__ == "__main__":
    unittest.main()
