"""Point 4: read and last_set."""

import unittest
from itertools import product

from shifttape import reading
from shifttape.reading import last_set, read
from tests.helper import plain_read, stepped

PLAIN = ("abc", "xyz", None)
HOMED = ("abc", "xyz", 1)


class Reading(unittest.TestCase):
    def told(self, sheet, tape, begin, text, end):
        self.assertEqual(read(sheet, tape, begin), text)
        self.assertEqual(last_set(sheet, tape, begin), end)

    def test_signs_of_each_set(self):
        self.told(PLAIN, [0, 1, 2], 0, "abc", 0)
        self.told(PLAIN, [0, 1, 2], 1, "xyz", 1)

    def test_shifts(self):
        self.told(PLAIN, [0, 4, 0, 1, 3, 2], 0, "axyc", 0)
        self.told(PLAIN, [0, 3, 0, 1, 4, 2], 1, "xabz", 1)

    def test_shifts_to_the_same_set(self):
        self.told(PLAIN, [3, 0, 3, 3, 1], 0, "ab", 0)
        self.told(PLAIN, [4, 0, 4, 4, 1], 1, "xy", 1)

    def test_shifts_at_the_end(self):
        self.told(PLAIN, [0, 4], 0, "a", 1)
        self.told(PLAIN, [0, 4, 3], 0, "a", 0)
        self.told(PLAIN, [0, 3], 1, "x", 0)
        self.told(PLAIN, [0, 3], 0, "a", 0)
        self.told(PLAIN, [0, 4], 1, "x", 1)

    def test_shifts_alone(self):
        self.told(PLAIN, [4], 0, "", 1)
        self.told(PLAIN, [3], 1, "", 0)
        self.told(PLAIN, [3, 4, 3, 4], 0, "", 1)

    def test_a_tape_that_changes_nothing(self):
        self.told(PLAIN, [], 0, "", 0)
        self.told(PLAIN, [], 1, "", 1)
        self.told(PLAIN, [2, 2], 1, "zz", 1)
        self.told(HOMED, [0, 2], 1, "xz", 1)

    def test_home_in_set_one(self):
        self.told(HOMED, [0, 1, 0], 1, "xya", 0)
        self.told(HOMED, [1], 1, "y", 0)
        self.told(HOMED, [4, 1, 1, 4, 2, 1], 0, "ybzy", 0)

    def test_home_in_set_zero(self):
        self.told(HOMED, [0, 1, 0], 0, "aba", 0)
        self.told(HOMED, [1, 4], 0, "b", 1)

    def test_first_and_last_code_as_home(self):
        self.told(("abc", "xyz", 0), [0, 0, 2], 1, "xac", 0)
        self.told(("abc", "xyz", 2), [0, 2, 2], 1, "xzc", 0)
        self.told(("a", "b", 0), [0, 0, 2, 0], 1, "bab", 0)

    def test_one_sign_at_the_same_place_of_both_sets(self):
        self.told(("ab", "ac", None), [0, 1, 3, 0, 1], 0, "abac", 1)

    def test_all_short_tapes(self):
        for sheet in (("ab", "bc", None), ("ab", "ba", 0), ("ab", "ac", 1), ("a", "b", 0)):
            for length in range(5):
                for tape in product(range(len(sheet[0]) + 2), repeat=length):
                    for begin in (0, 1):
                        end = begin
                        for code in tape:
                            _, end = stepped(sheet, code, end)
                        self.told(sheet, list(tape), begin, plain_read(sheet, tape, begin), end)

    def test_kinds(self):
        self.assertIs(type(read(PLAIN, [0], 0)), str)
        self.assertIs(type(last_set(PLAIN, [0], 0)), int)

    def test_defined_in_the_file(self):
        self.assertEqual(reading.read.__module__, "shifttape.reading")
        self.assertEqual(reading.last_set.__module__, "shifttape.reading")

    def test_arguments_by_name(self):
        self.assertEqual(read(sheet=PLAIN, tape=[0], begin=1), "x")
        self.assertEqual(last_set(sheet=PLAIN, tape=[4], begin=0), 1)


class Kept(unittest.TestCase):
    """Point 1: nothing that is handed in is changed or kept."""

    def test_what_is_handed_in_stays(self):
        tape = [0, 4, 1, 0]
        read(HOMED, tape, 0)
        last_set(HOMED, tape, 0)
        self.assertEqual(tape, [0, 4, 1, 0])
        self.assertEqual(HOMED, ("abc", "xyz", 1))

    def test_a_refused_tape_stays(self):
        tape = [0] * 101
        for action in (read, last_set):
            self.assertRaises(ValueError, action, PLAIN, tape, 0)
        self.assertEqual(tape, [0] * 101)

    def test_a_tape_may_be_changed_later(self):
        tape = [0, 4]
        self.assertEqual((read(PLAIN, tape, 0), last_set(PLAIN, tape, 0)), ("a", 1))
        tape[1] = 1
        self.assertEqual((read(PLAIN, tape, 0), last_set(PLAIN, tape, 0)), ("ab", 0))
        tape.append(4)
        self.assertEqual((read(PLAIN, tape, 0), last_set(PLAIN, tape, 0)), ("ab", 1))


if __name__ == "__main__":
    unittest.main()
