"""Points 2 and 3: what a sheet, a tape, a set and a text are, and what is refused."""

import unittest

from shifttape.errors import BadSet, BadSheet, BadTape, NoSign
from shifttape.guarding import guarded, is_guarded
from shifttape.joining import cut, joined
from shifttape.losses import lost_at, spoilt
from shifttape.reading import last_set, read
from shifttape.shortest import either, shortest
from shifttape.texts import written
from tests.helper import refusal

LOW = "abcdefghijklmnopqrstuvwxyz"
HIGH = "ABCDEFGHIJKLMNOPQRSTUVWXYZ"
HUGE = 10 ** 60 - 1
AB = ("ab", "cd", None)

# Each function of the interface with something good behind the sheet.
OVER_A_SHEET = (
    lambda sheet: read(sheet, [], 0),
    lambda sheet: last_set(sheet, [], 0),
    lambda sheet: shortest(sheet, "", 0),
    lambda sheet: either(sheet, ""),
    lambda sheet: spoilt(sheet, [], 0),
    lambda sheet: lost_at(sheet, [], 0, ""),
    lambda sheet: guarded(sheet, "", 0, 0),
    lambda sheet: is_guarded(sheet, [], 0, 0),
    lambda sheet: joined(sheet, [], 0),
    lambda sheet: cut(sheet, [], 0, 0),
    written,
)
OVER_A_TAPE = (
    read,
    last_set,
    spoilt,
    lambda sheet, tape, begin: lost_at(sheet, tape, begin, ""),
    lambda sheet, tape, begin: is_guarded(sheet, tape, begin, 32),
    lambda sheet, tape, begin: joined(sheet, [tape], begin),
    lambda sheet, tape, begin: joined(sheet, [[], [0], tape, [0]], begin),
    lambda sheet, tape, begin: cut(sheet, tape, begin, 0),
)
OVER_A_SET = (
    lambda begin: read(AB, [0], begin),
    lambda begin: last_set(AB, [0], begin),
    lambda begin: shortest(AB, "a", begin),
    lambda begin: spoilt(AB, [0], begin),
    lambda begin: lost_at(AB, [0], begin, "a"),
    lambda begin: guarded(AB, "a", begin, 0),
    lambda begin: is_guarded(AB, [0], begin, 0),
    lambda begin: joined(AB, [[0]], begin),
    lambda begin: joined(AB, [], begin),
    lambda begin: cut(AB, [0], begin, 1),
)
OVER_A_TEXT = (
    lambda sheet, text: shortest(sheet, text, 0),
    either,
    lambda sheet, text: guarded(sheet, text, 0, 0),
    lambda sheet, text: guarded(sheet, text, 1, 32),
)


class Sheets(unittest.TestCase):
    def good(self, sheet):
        for action in OVER_A_SHEET:
            action(sheet)

    def bad(self, sheet):
        for action in OVER_A_SHEET:
            refusal(self, BadSheet, action, sheet)

    def test_one_sign(self):
        self.good(("a", "b", None))
        self.good(("a", "a", 0))
        self.assertEqual(read(("a", "b", None), [0, 2, 0, 1, 0], 0), "aba")

    def test_twenty_six_signs(self):
        self.good((LOW, HIGH, 25))
        self.assertEqual(read((LOW, HIGH, 25), [25, 27, 0, 25, 25, 27, 24, 26, 0], 0), "zAZzYa")

    def test_blank_and_tilde(self):
        self.good((" ~", "~ ", None))
        self.assertEqual(read((" ~", "~ ", None), [0, 1, 3, 0, 1], 0), " ~~ ")
        self.assertEqual(shortest((" ~", "xy", None), " ~", 1), [2, 0, 1])
        self.assertEqual(either((" ~", "!~", None), "~ "), [1, 2, 0])

    def test_a_sign_in_both_sets(self):
        self.good(("ab", "ac", None))
        self.good(("ab", "ca", 1))
        self.good(("ab", "ab", None))
        self.assertEqual(read(("ab", "ca", None), [0, 3, 1], 0), "aa")

    def test_homes(self):
        for size in (1, 2, 26):
            for home in (None, 0, size - 1):
                self.good((LOW[:size], HIGH[:size], home))

    def test_unlike_lengths(self):
        self.bad(("ab", "c", None))
        self.bad(("a", "bc", None))
        self.bad(("", "c", None))
        self.bad(("a", "", None))
        self.bad((LOW, HIGH[:25], None))
        self.bad((LOW, HIGH + "0", None))

    def test_no_sign(self):
        self.bad(("", "", None))
        self.bad(("", "", 0))

    def test_twenty_seven_signs(self):
        self.bad((LOW + "0", HIGH + "0", None))
        self.bad((LOW + "0", HIGH + "0", 26))

    def test_a_sign_twice_in_one_set(self):
        self.bad(("aa", "bc", None))
        self.bad(("bc", "aa", None))
        self.bad(("aba", "xyz", 0))
        self.bad(("xyz", "abb", 0))
        self.bad((LOW[:25] + "a", HIGH, None))

    def test_a_sign_outside_of_blank_to_tilde(self):
        for sign in ("\n", "\t", "\x1f", "\x7f", "\x80", "\u00e9", "\u0416", "\U0001f600", "\x00"):
            self.bad(("a" + sign, "bc", None))
            self.bad(("bc", sign + "a", None))
            self.bad((sign, "a", None))

    def test_bad_homes(self):
        for home in (2, 3, -1, -2, HUGE, -HUGE):
            self.bad(("ab", "cd", home))
        self.bad(("a", "b", 1))
        self.bad((LOW, HIGH, 26))


class Tapes(unittest.TestCase):
    def bad(self, sheet, tape, place):
        for action in OVER_A_TAPE:
            for begin in (0, 1):
                self.assertEqual(refusal(self, BadTape, action, sheet, tape, begin).place, place)

    def test_no_code(self):
        self.assertEqual(read(AB, [], 0), "")
        self.assertEqual(read(AB, [], 1), "")

    def test_a_hundred_codes(self):
        self.assertEqual(read(AB, [0] * 100, 0), "a" * 100)
        self.assertEqual(last_set(AB, [1] * 99 + [3], 0), 1)
        self.assertEqual(read(AB, [2, 3] * 50, 0), "")

    def test_a_hundred_and_one(self):
        self.bad(AB, [0] * 101, 100)
        self.bad(AB, [2] * 101, 100)
        self.bad(AB, [0] * 300, 100)

    def test_an_earlier_bad_code_in_a_long_tape(self):
        self.bad(AB, [0] * 99 + [4, 0], 99)
        self.bad(AB, [-1] + [0] * 100, 0)
        self.bad(AB, [0] * 50 + [4] + [0] * 99, 50)
        self.bad(AB, [0] * 100 + [9], 100)
        self.bad(AB, [0] * 101 + [9], 100)

    def test_codes_at_the_edge(self):
        # n is 2: code 3, which is n + 1, is the last good one.
        self.assertEqual(read(AB, [3, 0, 2, 0], 0), "ca")
        self.bad(AB, [0, 4], 1)
        self.bad(AB, [0, 1, -1], 2)
        self.assertEqual(last_set(("a", "b", None), [2], 0), 1)
        self.bad(("a", "b", None), [3], 0)
        self.assertEqual(last_set((LOW, HIGH, None), [27], 0), 1)
        self.bad((LOW, HIGH, None), [28], 0)

    def test_huge_codes(self):
        self.bad(AB, [0, 0, HUGE], 2)
        self.bad(AB, [0, -HUGE, 0], 1)

    def test_the_first_of_several(self):
        self.bad(AB, [0, 4, -1, HUGE], 1)
        self.bad(AB, [3, -1, 4], 1)


class Sets(unittest.TestCase):
    def test_good(self):
        for action in OVER_A_SET:
            action(0)
            action(1)

    def test_bad(self):
        for action in OVER_A_SET:
            for begin in (2, -1, 3, -2, HUGE, -HUGE):
                refusal(self, BadSet, action, begin)


class Texts(unittest.TestCase):
    def bad(self, sheet, text, place):
        for action in OVER_A_TEXT:
            self.assertEqual(refusal(self, NoSign, action, sheet, text).place, place)

    def test_no_sign(self):
        self.assertEqual(shortest(AB, "", 0), [])
        self.assertEqual(shortest(AB, "", 1), [])
        self.assertEqual(either(AB, ""), [])

    def test_thirty_two_signs(self):
        self.assertEqual(shortest(AB, "a" * 32, 0), [0] * 32)
        self.assertEqual(shortest(AB, "d" * 32, 0), [3] + [1] * 32)
        self.assertEqual(either(AB, "a" * 32), [2] + [0] * 32)

    def test_thirty_three_signs(self):
        self.bad(AB, "a" * 33, 32)
        self.bad(AB, "c" * 100, 32)
        self.bad(AB, "a" * 32 + "x", 32)

    def test_an_earlier_bad_sign_in_a_long_text(self):
        self.bad(AB, "a" * 31 + "x" + "a", 31)
        self.bad(AB, "x" + "a" * 32, 0)
        self.bad(AB, "abc" + "x" * 40, 3)

    def test_a_sign_in_neither_set(self):
        self.bad(AB, "x", 0)
        self.bad(AB, "abcdA", 4)
        self.bad(AB, "ab\ncd", 2)
        self.bad(AB, "a\u00e9", 1)
        self.bad(AB, "a ", 1)

    def test_the_first_of_several(self):
        self.bad(AB, "dcxay", 2)

    def test_each_set_alone_is_enough(self):
        self.assertEqual(shortest(AB, "ab", 0), [0, 1])
        self.assertEqual(shortest(AB, "cd", 1), [0, 1])


if __name__ == "__main__":
    unittest.main()
