"""Point 8: guarded and is_guarded."""

import random
import unittest
from itertools import permutations, product

from shifttape import guarding
from shifttape.errors import BadCount
from shifttape.guarding import guarded, is_guarded
from shifttape.losses import spoilt
from shifttape.shortest import shortest
from tests.helper import guarded_length, plain_losses, plain_read, refusal, tapes_read_as, worst_loss

LOW = "abcdefghijklmnopqrstuvwxyz"
HIGH = "ABCDEFGHIJKLMNOPQRSTUVWXYZ"
HUGE = 10 ** 60 - 1
PLAIN = ("ab", "xy", None)
HOMED = ("ab", "xy", 1)


class Guarded(unittest.TestCase):
    def told(self, sheet, text, begin, most, length):
        """Check that what is told is a guarded tape of the text, and of the length; return it."""
        tape = guarded(sheet, text, begin, most)
        self.assertEqual(plain_read(sheet, tape, begin), text, (sheet, text, begin, most))
        self.assertLessEqual(worst_loss(sheet, tape, begin), most, (sheet, text, begin, most))
        self.assertIs(is_guarded(sheet, tape, begin, most), True)
        self.assertEqual(len(tape), length, (sheet, text, begin, most, tape))
        return tape

    def test_no_shift_is_needed(self):
        for most in (0, 1, 2, 31, 32):
            self.assertEqual(self.told(PLAIN, "abba", 0, most, 4), [0, 1, 1, 0])
            self.assertEqual(self.told(PLAIN, "xyyx", 1, most, 4), [0, 1, 1, 0])
            self.assertEqual(self.told(PLAIN, "", 0, most, 0), [])
            self.assertEqual(self.told(HOMED, "", 1, most, 0), [])

    def test_a_shift_stands_twice(self):
        self.assertEqual(self.told(PLAIN, "x", 0, 0, 3), [3, 3, 0])
        self.assertEqual(self.told(PLAIN, "a", 1, 0, 3), [2, 2, 0])
        self.assertEqual(self.told(PLAIN, "x", 0, 1, 2), [3, 0])
        self.assertEqual(self.told(PLAIN, "a", 1, 1, 2), [2, 0])

    def test_the_number_is_the_edge(self):
        for length in (1, 2, 3, 16, 31, 32):
            for most in (0, 1, 2, 3, 15, 16, 30, 31, 32):
                self.told(PLAIN, "y" * length, 0, most, length + (1 if length <= most else 2))
                self.told(PLAIN, "b" * length, 1, most, length + (1 if length <= most else 2))

    def test_each_turn_for_itself(self):
        self.told(PLAIN, "xaxx", 0, 0, 4 + 6)
        self.told(PLAIN, "xaxx", 0, 1, 4 + 4)
        self.told(PLAIN, "xaxx", 0, 2, 4 + 3)
        self.told(PLAIN, "xaxx", 1, 0, 4 + 4)

    def test_home_ends_what_is_spoilt(self):
        # y is read with the code home: behind it, it is set 0.
        self.assertEqual(self.told(HOMED, "xyaaa", 0, 2, 6), [3, 0, 1, 0, 0, 0])
        self.told(HOMED, "xyaaa", 0, 1, 7)
        self.assertEqual(self.told(HOMED, "yaaa", 0, 1, 5), [3, 1, 0, 0, 0])
        self.assertEqual(self.told(HOMED, "baaa", 1, 1, 5), [2, 1, 0, 0, 0])
        self.assertEqual(self.told(HOMED, "yaaa", 1, 0, 4), [1, 0, 0, 0])

    def test_signs_that_no_loss_spoils(self):
        sheet = ("ab.", "xy.", None)
        self.told(sheet, "x....", 0, 1, 6)
        self.told(sheet, "x....", 0, 0, 7)
        self.told(sheet, "....", 0, 0, 4)
        self.told(sheet, "....x", 0, 1, 6)

    def test_it_may_stay_in_the_other_set(self):
        # a and b stand in both sets at other places; only set 1 has x.
        sheet = ("ab-", "bax", None)
        self.told(sheet, "xabab", 0, 32, 6)
        self.told(sheet, "xabab", 0, 5, 6)
        self.told(sheet, "xabab", 0, 4, 7)
        self.told(sheet, "xabab", 0, 0, 7)

    def test_the_longest_there_is(self):
        for sheet in (("a", "b", None), ("ac", "bd", 1)):
            self.told(sheet, "ba" * 16, 0, 0, 96)
            self.told(sheet, "ab" * 16, 1, 0, 96)
            self.told(sheet, "ba" * 16, 0, 1, 64)
            self.told(sheet, "ba" * 16, 1, 0, 94)

    def test_bad_numbers(self):
        for most in (-1, 33, -2, 34, 100, HUGE, -HUGE):
            for text in ("", "ax"):
                refusal(self, BadCount, guarded, PLAIN, text, 0, most)
                refusal(self, BadCount, guarded, PLAIN, text, 1, most)

    def test_kinds(self):
        for tape in (guarded(PLAIN, "axb", 0, 0), guarded(PLAIN, "", 0, 0), guarded(PLAIN, "a", 0, 32)):
            self.assertIs(type(tape), list)
            self.assertTrue(all(type(code) is int for code in tape))


class AgainstAllTapes(unittest.TestCase):
    """No shorter tape is read as the text and guarded, of all tapes by their length."""

    def told(self, sheet, text, begin, numbers):
        tapes = {most: guarded(sheet, text, begin, most) for most in numbers}
        for most, tape in tapes.items():
            self.assertEqual(plain_read(sheet, tape, begin), text, (sheet, text, begin, most))
            self.assertLessEqual(worst_loss(sheet, tape, begin), most, (sheet, text, begin, most))
            self.assertIs(is_guarded(sheet, tape, begin, most), True)
        return tapes

    def shorter(self, tapes, tape, worst):
        """Return the numbers for which the tape is guarded and shorter than what is told."""
        return [most for most in tapes if worst <= most and len(tape) < len(tapes[most])]

    def among_all(self, sheet, longest):
        told = {}
        for length in range(longest + 1):
            for signs in product(sorted(set(sheet[0] + sheet[1])), repeat=length):
                for begin in (0, 1):
                    told["".join(signs), begin] = self.told(sheet, "".join(signs), begin, (0, 1, 2, 3, 31, 32))
        most_codes = max(len(tape) for tapes in told.values() for tape in tapes.values())
        for length in range(most_codes):
            for tape in product(range(len(sheet[0]) + 2), repeat=length):
                for begin in (0, 1):
                    tapes = told.get((plain_read(sheet, tape, begin), begin))
                    if tapes:
                        worst = worst_loss(sheet, tape, begin)
                        self.assertEqual(self.shorter(tapes, tape, worst), [], (sheet, tape, begin))

    def among_those_of(self, sheet, text, begin):
        tapes = self.told(sheet, text, begin, (*range(len(text) + 2), 32))
        for length in range(max(len(tape) for tape in tapes.values())):
            for tape in tapes_read_as(sheet, text, begin, length):
                worst = worst_loss(sheet, tape, begin)
                self.assertEqual(self.shorter(tapes, tape, worst), [], (sheet, tape, begin))

    def test_one_sign(self):
        for sheet in (("a", "b", None), ("a", "b", 0), ("a", "a", None), ("a", "a", 0)):
            self.among_all(sheet, 3)

    def test_two_signs(self):
        for one in ("ab", "ba", "ac", "ca", "cb", "cd"):
            for home in (None, 0, 1):
                self.among_all(("ab", one, home), 2)

    def test_three_signs(self):
        for one in ("bca", "acb", "dba", "xyc"):
            for home in (None, 0, 2):
                sheet = ("abc", one, home)
                for signs in product(sorted(set("abc" + one)), repeat=3):
                    self.among_those_of(sheet, "".join(signs), len(set(signs)) % 2)

    def test_longer_texts(self):
        for sheet in (("ab", "ba", None), ("ab", "cb", 1), ("abc", "bda", 0), ("abc", "bcd", None)):
            for text in ("".join(signs) for signs in permutations(sorted(set(sheet[0] + sheet[1])), 2)):
                for begin in (0, 1):
                    self.among_those_of(sheet, text + text, begin)
                    self.among_those_of(sheet, text[0] + text[1] * 3, begin)


class AgainstASearch(unittest.TestCase):
    """Held against a search from the front, for long texts over large sheets."""

    def held(self, sheet, text, numbers):
        for begin in (0, 1):
            least = len(shortest(sheet, text, begin))
            longest = len(text) * 3
            for most in sorted(numbers):
                tape = guarded(sheet, text, begin, most)
                self.assertEqual(plain_read(sheet, tape, begin), text, (sheet, text, begin, most))
                self.assertLessEqual(worst_loss(sheet, tape, begin), most, (sheet, text, begin, most))
                self.assertIs(is_guarded(sheet, tape, begin, most), True)
                self.assertEqual(len(tape), guarded_length(sheet, text, begin, most), (sheet, text, begin, most))
                # With a greater number never longer, and with 32 as long as the shortest tape.
                self.assertLessEqual(len(tape), longest)
                longest = len(tape)
                self.assertGreaterEqual(longest, least)
            self.assertEqual(len(guarded(sheet, text, begin, 32)), least, (sheet, text, begin))

    def test_the_search_itself(self):
        for sheet in (("ab", "bc", 1), ("ab", "ba", None)):
            for signs in product("ab", repeat=3):
                text = "".join(signs)
                for most in range(4):
                    length = 0
                    while not any(worst_loss(sheet, tape, 0) <= most for tape in tapes_read_as(sheet, text, 0, length)):
                        length += 1
                    self.assertEqual(guarded_length(sheet, text, 0, most), length)

    def test_all_numbers(self):
        for home in (None, 0, 12, 25):
            self.held((LOW, LOW[::-1], home), (LOW + LOW)[:32], range(33))
            self.held((LOW, HIGH, home), "aAbBZzYyabABZZzzYyYyXXXXaaaZaZzA", range(33))
            self.held((LOW, LOW, home), (LOW + LOW)[:32], range(33))
            self.held((LOW, HIGH, home), "Z" * 32, range(33))
            self.held((LOW, HIGH, home), "MMMMMMMMMMMMmmmmmmmmMMMMMMMMMMMM", range(33))

    def test_mixed_sheets(self):
        # The seed is told, so that each run holds the same sheets and texts.
        chance = random.Random(8)
        for run in range(60):
            shared = chance.sample(LOW, chance.randint(10, 24))
            zero = shared + chance.sample("0123456789!?.,:;+-*/=()", 26 - len(shared))
            one = shared + chance.sample(HIGH, 26 - len(shared))
            if run % 3:
                chance.shuffle(one)
            sheet = ("".join(zero), "".join(one), chance.choice([None, *range(26)]))
            signs = chance.choice([zero + one, shared + one[-2:], one + zero[-1:]])
            self.held(sheet, "".join(chance.choice(signs) for _ in range(32)), (0, 1, 2, 3, 5, 8, 13, 31, 32))


class IsGuarded(unittest.TestCase):
    def edge(self, sheet, tape, begin, worst):
        """Check that the tape is guarded for the number and all greater ones, and for no lower one."""
        for most in range(33):
            self.assertIs(is_guarded(sheet, tape, begin, most), worst <= most, (sheet, tape, begin, most))

    def test_by_hand(self):
        self.edge(PLAIN, [], 0, 0)
        self.edge(PLAIN, [0, 1, 1], 1, 0)
        self.edge(PLAIN, [3, 0, 1, 1], 0, 3)
        self.edge(PLAIN, [3, 0, 1, 1], 1, 0)
        self.edge(PLAIN, [2, 0, 1, 1], 1, 3)
        self.edge(PLAIN, [3, 3, 0, 1, 1], 0, 0)
        self.edge(PLAIN, [3, 0, 3, 1, 1], 0, 1)
        self.edge(PLAIN, [3, 0, 2, 1, 1], 0, 2)
        self.edge(HOMED, [3, 0, 1, 0, 0], 0, 2)
        self.edge(PLAIN, [0, 3], 0, 0)

    def test_the_worst_anywhere(self):
        self.edge(PLAIN, [3, 0, 0, 2, 0, 3, 0], 0, 2)
        self.edge(PLAIN, [3, 0, 2, 0, 0, 3, 0], 0, 2)
        self.edge(PLAIN, [3, 0, 2, 0, 3, 0, 0], 0, 2)

    def test_a_hundred_codes(self):
        self.edge(PLAIN, [3] + [0] * 32 + [3] + [0] * 66, 0, 32)
        self.edge(PLAIN, [3] + [0] * 33 + [3] + [0] * 65, 0, 33)
        self.edge(PLAIN, [3] + [0] * 99, 0, 99)
        self.edge(PLAIN, [3] + [0] * 99, 1, 0)
        self.edge(PLAIN, [0] * 100, 1, 0)
        self.edge(PLAIN, [2, 3] * 50, 0, 0)
        self.edge(HOMED, [3] + [1] * 99, 0, 1)
        self.edge(PLAIN, [0] * 68 + [3] + [0] * 31, 0, 31)

    def test_all_short_tapes(self):
        for sheet in (("a", "b", 0), ("ab", "bc", None), ("ab", "ac", 1), ("ab", "ba", 0)):
            for length in range(6):
                for tape in product(range(len(sheet[0]) + 2), repeat=length):
                    for begin in (0, 1):
                        worst = max([many for _, many in plain_losses(sheet, tape, begin)], default=0)
                        for most in {0, 1, worst, max(worst - 1, 0), 32}:
                            self.assertIs(is_guarded(sheet, list(tape), begin, most), worst <= most)

    def test_held_against_spoilt(self):
        chance = random.Random(9)
        for _ in range(40):
            codes = [*range(26), *[26, 27] * chance.choice([1, 3, 6])]
            tape = [chance.choice(codes) for _ in range(chance.choice([100, 99, 60]))]
            sheet = (LOW, chance.choice([HIGH, LOW[::-1], LOW[:13] + HIGH[13:]]), chance.choice([None, 3]))
            for begin in (0, 1):
                worst = max([many for _, many in spoilt(sheet, tape, begin)], default=0)
                self.assertEqual(worst, worst_loss(sheet, tape, begin))
                self.edge(sheet, tape, begin, worst)

    def test_bad_numbers(self):
        for most in (-1, 33, -2, 34, 99, 100, HUGE, -HUGE):
            for tape in ([], [3, 0], [0] * 100):
                refusal(self, BadCount, is_guarded, PLAIN, tape, 0, most)
                refusal(self, BadCount, is_guarded, PLAIN, tape, 1, most)


class Interface(unittest.TestCase):
    def test_defined_in_the_file(self):
        self.assertEqual(guarding.guarded.__module__, "shifttape.guarding")
        self.assertEqual(guarding.is_guarded.__module__, "shifttape.guarding")

    def test_arguments_by_name(self):
        self.assertEqual(guarded(sheet=PLAIN, text="x", begin=0, most=0), [3, 3, 0])
        self.assertIs(is_guarded(sheet=PLAIN, tape=[3, 0], begin=0, most=0), False)


if __name__ == "__main__":
    unittest.main()
