"""Point 7: spoilt and lost_at."""

import random
import unittest
from itertools import product

from shifttape import losses
from shifttape.losses import lost_at, spoilt
from shifttape.reading import read
from tests.helper import plain_losses

LOW = "abcdefghijklmnopqrstuvwxyz"
HIGH = "ABCDEFGHIJKLMNOPQRSTUVWXYZ"
PLAIN = ("abc", "xyz", None)
HOMED = ("abc", "xyz", 1)
# The code 2 is the same sign in both sets.
SHARED = ("ab.", "xa.", None)
SHEETS = (("a", "b", None), ("a", "b", 0), ("a", "a", 0), ("ab", "bc", None), ("ab", "ba", 0), ("ab", "ac", 1),
          ("ab", "ac", 0))


def without(tape, place):
    return tape[:place] + tape[place + 1:]


class Spoilt(unittest.TestCase):
    def told(self, sheet, tape, begin, wanted):
        self.assertEqual(spoilt(sheet, tape, begin), wanted)

    def test_all_behind_the_shift(self):
        self.told(PLAIN, [0, 4, 0, 1, 2], 0, [(1, 3)])
        self.told(PLAIN, [0, 3, 0, 1, 2], 1, [(1, 3)])

    def test_up_to_the_next_shift(self):
        self.told(PLAIN, [4, 0, 1, 3, 2, 4, 0], 0, [(0, 2), (3, 1), (5, 1)])
        self.told(PLAIN, [4, 0, 1, 4, 2, 2, 2], 0, [(0, 2), (3, 0)])

    def test_a_shift_to_the_set_it_is_in(self):
        self.told(PLAIN, [3, 0, 1], 0, [(0, 0)])
        self.told(PLAIN, [4, 0, 1], 1, [(0, 0)])
        self.told(PLAIN, [4, 0, 1], 0, [(0, 2)])
        self.told(PLAIN, [3, 0, 1], 1, [(0, 2)])

    def test_two_shifts_in_a_row(self):
        self.told(PLAIN, [4, 4, 0, 1], 0, [(0, 0), (1, 0)])
        self.told(PLAIN, [3, 4, 0, 1], 0, [(0, 0), (1, 2)])
        self.told(PLAIN, [4, 3, 0, 1], 0, [(0, 0), (1, 2)])
        self.told(PLAIN, [4, 3, 0, 1], 1, [(0, 0), (1, 2)])

    def test_a_shift_at_the_end(self):
        self.told(PLAIN, [0, 4], 0, [(1, 0)])
        self.told(PLAIN, [0, 3], 1, [(1, 0)])
        self.told(PLAIN, [4], 0, [(0, 0)])

    def test_up_to_home(self):
        self.told(HOMED, [4, 0, 1, 0, 2], 0, [(0, 2)])
        self.told(HOMED, [4, 1, 0, 2], 0, [(0, 1)])
        self.told(HOMED, [0, 1, 4, 2, 0], 1, [(2, 2)])
        self.told(HOMED, [3, 0, 1, 2, 2], 1, [(0, 2)])

    def test_home_behind_a_shift_to_the_set_it_is_in(self):
        self.told(HOMED, [4, 1, 3, 0], 0, [(0, 1), (2, 0)])
        self.told(HOMED, [1, 3, 0, 4, 0], 1, [(1, 0), (3, 1)])

    def test_home_that_is_the_same_sign_in_both_sets(self):
        self.told(("ab ", "xy ", 2), [4, 0, 2, 1, 4, 2, 0], 0, [(0, 1), (4, 0)])

    def test_a_sign_in_both_sets_at_the_same_place(self):
        self.told(SHARED, [4, 2, 2, 0, 2], 0, [(0, 1)])
        self.told(SHARED, [4, 2, 2], 0, [(0, 0)])

    def test_a_sign_in_both_sets_at_other_places(self):
        # a is code 0 in set 0 and code 1 in set 1.
        self.told(SHARED, [4, 1, 1, 0], 0, [(0, 3)])

    def test_no_code_and_no_shift(self):
        for begin in (0, 1):
            self.told(PLAIN, [], begin, [])
            self.told(PLAIN, [0, 1, 2], begin, [])
            self.told(HOMED, [1] * 100, begin, [])

    def test_a_hundred_shifts(self):
        self.told(PLAIN, [3, 4] * 50, 0, [(place, 0) for place in range(100)])
        self.told(PLAIN, [4] * 100, 0, [(place, 0) for place in range(100)])

    def test_a_hundred_codes(self):
        self.told(PLAIN, [4] + [0] * 99, 0, [(0, 99)])
        self.told(PLAIN, [4, 0] * 50, 0, [(0, 1)] + [(place, 0) for place in range(2, 100, 2)])
        self.told(PLAIN, [0] * 99 + [4], 0, [(99, 0)])
        self.told((LOW, HIGH, None), [27, *range(26), 26, *range(26)], 0, [(0, 26), (27, 26)])

    def test_kinds(self):
        rows = spoilt(PLAIN, [4, 0, 3, 0], 0)
        self.assertIs(type(rows), list)
        for row in rows:
            self.assertIs(type(row), tuple)
            self.assertEqual([type(part) for part in row], [int, int])
        self.assertIs(type(spoilt(PLAIN, [], 0)), list)


class LostAt(unittest.TestCase):
    def told(self, sheet, tape, begin, text, wanted):
        self.assertEqual(lost_at(sheet, tape, begin, text), wanted)

    def test_the_text_without_one(self):
        tape = [0, 4, 0, 3, 1]
        self.assertEqual(read(PLAIN, tape, 0), "axb")
        self.told(PLAIN, tape, 0, "aab", [1])
        self.told(PLAIN, tape, 0, "axy", [3])
        self.told(PLAIN, [0, 3, 0, 4, 1], 1, "xxy", [1])
        self.told(PLAIN, [0, 3, 0, 4, 1], 1, "xab", [3])

    def test_the_text_of_the_whole_tape(self):
        self.told(PLAIN, [0, 4, 0, 3, 1], 0, "axb", [])
        self.told(PLAIN, [3, 0, 4, 4, 0, 3], 0, "ax", [0, 2, 3, 5])
        self.told(PLAIN, [3, 0, 4, 4, 0, 3], 1, "ax", [2, 3, 5])

    def test_several_are_told_rising(self):
        self.told(PLAIN, [3, 4, 3, 4, 3, 4], 0, "", [0, 1, 2, 3, 4, 5])
        self.told(SHARED, [4, 2, 3, 2, 4, 2], 0, "...", [0, 2, 4])

    def test_a_text_that_no_loss_gives(self):
        self.told(PLAIN, [0, 4, 0, 3, 1], 0, "zzz", [])
        self.told(PLAIN, [0, 4, 0, 3, 1], 0, "ax", [])
        self.told(PLAIN, [0, 4, 0, 3, 1], 0, "aabb", [])
        self.told(PLAIN, [0, 4, 0, 3, 1], 0, "aa", [])

    def test_the_empty_text(self):
        self.told(PLAIN, [0, 4, 0], 0, "", [])
        self.told(PLAIN, [4, 3], 0, "", [0, 1])
        self.told(PLAIN, [], 0, "", [])
        self.told(PLAIN, [], 1, "x", [])

    def test_no_shift(self):
        self.told(PLAIN, [0, 1], 0, "ab", [])
        self.told(PLAIN, [0, 1], 1, "ab", [])

    def test_any_text(self):
        for text in ("!", "ab?", "\n", "\u00e9", "a" * 33, "?" * 100, "a\tb" * 50):
            for begin in (0, 1):
                self.told(PLAIN, [0, 4, 0, 3, 1], begin, text, [])

    def test_a_text_longer_than_thirty_two_signs(self):
        tape = [4] + [0] * 50 + [3, 1, 4, 4]
        self.told(PLAIN, tape, 0, "a" * 50 + "b", [0])
        self.told(PLAIN, tape, 0, "x" * 50 + "y", [51])
        self.told(PLAIN, tape, 0, "x" * 50 + "b", [53, 54])
        self.told(PLAIN, [0] * 99 + [4], 0, "a" * 99, [99])
        self.told(PLAIN, [0] * 99 + [4], 0, "a" * 100, [])

    def test_home(self):
        self.told(HOMED, [4, 0, 1, 0], 0, "aba", [0])
        self.told(HOMED, [4, 1, 3, 0], 0, "ya", [2])

    def test_kinds(self):
        places = lost_at(PLAIN, [3, 4], 0, "")
        self.assertIs(type(places), list)
        self.assertEqual([type(place) for place in places], [int, int])


class AgainstReading(unittest.TestCase):
    """Held against reading the tape without the one code."""

    def held(self, sheet, tape, begin):
        text = read(sheet, tape, begin)
        wanted = []
        texts = {text: [], "": [], text + "a": []}
        for place, code in enumerate(tape):
            if code >= len(sheet[0]):
                instead = read(sheet, without(tape, place), begin)
                wanted.append((place, sum(one != other for one, other in zip(text, instead, strict=True))))
                texts.setdefault(instead, []).append(place)
        self.assertEqual(spoilt(sheet, tape, begin), wanted, (sheet, tape, begin))
        self.assertEqual(plain_losses(sheet, tape, begin), wanted)
        for instead, places in texts.items():
            self.assertEqual(lost_at(sheet, tape, begin, instead), places, (sheet, tape, begin, instead))

    def test_all_short_tapes(self):
        for sheet in SHEETS:
            for length in range(6):
                for tape in product(range(len(sheet[0]) + 2), repeat=length):
                    self.held(sheet, list(tape), 0)
                    self.held(sheet, list(tape), 1)

    def test_long_tapes(self):
        # The seed is told, so that each run holds the same tapes.
        chance = random.Random(7)
        for run in range(60):
            shared = chance.sample(LOW, chance.randint(0, 26))
            zero = shared + [sign for sign in "0123456789!?.,:;+-*/=()<>#"][:26 - len(shared)]
            one = shared + chance.sample(HIGH, 26 - len(shared))
            if run % 2:
                chance.shuffle(one)
            sheet = ("".join(zero), "".join(one), chance.choice([None, *range(26)]))
            codes = [*range(26), *[26, 27] * chance.choice([1, 6, 20])]
            tape = [chance.choice(codes) for _ in range(100)]
            self.held(sheet, tape, 0)
            self.held(sheet, tape, 1)


class Interface(unittest.TestCase):
    def test_defined_in_the_file(self):
        self.assertEqual(losses.spoilt.__module__, "shifttape.losses")
        self.assertEqual(losses.lost_at.__module__, "shifttape.losses")

    def test_arguments_by_name(self):
        self.assertEqual(spoilt(sheet=PLAIN, tape=[4, 0], begin=0), [(0, 1)])
        self.assertEqual(lost_at(sheet=PLAIN, tape=[4, 0], begin=0, text="a"), [0])


if __name__ == "__main__":
    unittest.main()
