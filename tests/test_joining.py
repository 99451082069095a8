"""Points 9, 10 and 11: joined and cut."""

import random
import unittest
from itertools import product

from shifttape import joining
from shifttape.errors import BadCount, BadTape
from shifttape.joining import cut, joined
from shifttape.reading import last_set, read
from tests.helper import plain_end, plain_read, refusal

LOW = "abcdefghijklmnopqrstuvwxyz"
HIGH = "ABCDEFGHIJKLMNOPQRSTUVWXYZ"
HUGE = 10 ** 60 - 1
PLAIN = ("ab", "xy", None)
HOMED = ("ab", "xy", 1)
# The code 2 is the same sign in both sets.
SHARED = ("ab.", "xy.", None)
SHEETS = (("a", "b", None), ("a", "b", 0), ("ab", "ac", None), ("ab", "ac", 0), ("ab", "cb", 0), ("ab", "ba", 1))


class Joined(unittest.TestCase):
    def told(self, sheet, tapes, begin, wanted):
        self.assertEqual(joined(sheet, tapes, begin), wanted)

    def test_no_tape(self):
        for begin in (0, 1):
            self.told(PLAIN, [], begin, [])

    def test_one_tape(self):
        for begin in (0, 1):
            for tape in ([], [0], [3, 1], [2], [3], [0, 2, 3]):
                self.told(PLAIN, [tape], begin, tape)

    def test_several_that_end_where_they_begin(self):
        self.told(PLAIN, [[0], [1, 0], [3, 1, 2]], 0, [0, 1, 0, 3, 1, 2])
        self.told(PLAIN, [[0], [1, 0], [2, 1, 3], [0]], 1, [0, 1, 0, 2, 1, 3, 0])

    def test_several_that_end_in_the_other_set(self):
        self.told(PLAIN, [[3, 0], [1]], 0, [3, 0, 2, 1])
        self.told(PLAIN, [[2, 0], [1]], 1, [2, 0, 3, 1])
        self.told(PLAIN, [[3, 0], [0, 3, 0], [1]], 0, [3, 0, 2, 0, 3, 0, 2, 1])

    def test_the_same_text_in_both_sets(self):
        self.told(PLAIN, [[3, 0], [3, 1]], 0, [3, 0, 3, 1])
        self.told(PLAIN, [[3, 0], [2, 1]], 0, [3, 0, 2, 1])
        self.told(SHARED, [[4], [2, 2], [2, 4, 0]], 0, [4, 2, 2, 2, 4, 0])
        self.told(PLAIN, [[3], [2]], 0, [3, 2])

    def test_the_set_of_the_joined_tape_counts(self):
        # The second tape is read alike in both sets, and ends in the set in which it is really begun.
        self.told(SHARED, [[4], [2], [0]], 0, [4, 2, 3, 0])
        self.told(SHARED, [[3], [2, 2], [], [1]], 1, [3, 2, 2, 4, 1])
        self.told(SHARED, [[4], [2, 4], [0]], 0, [4, 2, 4, 3, 0])
        self.told(SHARED, [[4], [2, 3], [0]], 0, [4, 2, 3, 0])

    def test_empty_tapes_among_them(self):
        self.told(PLAIN, [[], [3, 0], [], [], [1], []], 0, [3, 0, 2, 1])
        self.told(PLAIN, [[], [], []], 1, [])
        self.told(PLAIN, [[0], [], [1]], 1, [0, 1])

    def test_shifts_alone(self):
        self.told(PLAIN, [[3], [0]], 0, [3, 2, 0])
        self.told(PLAIN, [[3], [3]], 0, [3, 3])
        self.told(PLAIN, [[3], [2], [0]], 0, [3, 2, 0])

    def test_home(self):
        self.told(HOMED, [[1], [0]], 1, [1, 3, 0])
        self.told(HOMED, [[1], [0]], 0, [1, 0])
        self.told(HOMED, [[3, 1], [0]], 0, [3, 1, 0])
        self.told(HOMED, [[0, 1, 0], [1], [1]], 1, [0, 1, 0, 3, 1, 3, 1])
        # Behind the home of the second tape it is set 0, from whichever set it was begun.
        self.told(("ab ", "xy ", 2), [[4], [2], [0]], 0, [4, 2, 0])
        self.told(("ab ", "xy ", 2), [[3], [2], [0]], 1, [3, 2, 4, 0])

    def test_longer_than_a_hundred_codes(self):
        self.told(PLAIN, [[0] * 100, [1] * 100], 0, [0] * 100 + [1] * 100)
        self.told(PLAIN, [[3] + [0] * 99] * 3, 0, ([3] + [0] * 99) * 3)
        self.told(PLAIN, [[0] * 99 + [3]] * 3, 0, [0] * 99 + [3, 2] + [0] * 99 + [3, 2] + [0] * 99 + [3])

    def test_three_hundred_tapes(self):
        self.told(PLAIN, [[0, 3]] * 300, 0, ([0, 3, 2] * 300)[:-1])
        self.told(PLAIN, [[0] * 100] * 300, 1, [0] * 30000)
        self.told(PLAIN, [[0]] * 300, 0, [0] * 300)

    def test_all_pairs_and_some_more(self):
        for sheet in SHEETS:
            codes = range(len(sheet[0]) + 2)
            tapes = [list(tape) for length in range(3) for tape in product(codes, repeat=length)]
            for pair in product(tapes, repeat=2):
                for begin in (0, 1):
                    self.told(sheet, list(pair), begin, self.by_the_words(sheet, pair, begin))
                    more = [*pair, pair[0], [0]]
                    self.told(sheet, more, begin, self.by_the_words(sheet, more, begin))

    def by_the_words(self, sheet, tapes, begin):
        whole = []
        for tape in tapes:
            there = plain_end(sheet, whole, begin)
            if plain_read(sheet, tape, there) != plain_read(sheet, tape, begin):
                whole.append(len(sheet[0]) + begin)
            whole.extend(tape)
        return whole

    def test_bad_tapes(self):
        def bad(tapes, place):
            for begin in (0, 1):
                self.assertEqual(refusal(self, BadTape, joined, PLAIN, tapes, begin).place, place)

        bad([[0, 4]], 1)
        bad([[0], [1], [0, 1, -1]], 2)
        bad([[0, 1, 2, 3, 0, 0], [0, HUGE]], 1)
        bad([[], [0] * 101], 100)
        bad([[0] * 100, [0] * 99 + [4]], 99)
        bad([[0] * 300], 100)

    def test_the_first_bad_tape_counts(self):
        for tapes, place in (([[0], [0, 0, 4], [9]], 2), ([[0] * 101, [9]], 100), ([[9], [0] * 101], 0)):
            self.assertEqual(refusal(self, BadTape, joined, PLAIN, tapes, 0).place, place)

    def test_a_joined_tape_of_a_hundred_codes_is_a_tape(self):
        whole = joined(PLAIN, [[0] * 50, [1] * 50], 0)
        self.assertEqual(joined(PLAIN, [whole, [0]], 0), whole + [0])
        self.assertEqual(refusal(self, BadTape, joined, PLAIN, [[0], whole + [0]], 0).place, 100)

    def test_kinds(self):
        for tapes in ([], [[]], [[0]], [[3, 0], [0]]):
            whole = joined(PLAIN, tapes, 0)
            self.assertIs(type(whole), list)
            self.assertTrue(all(type(code) is int for code in whole))


class Cut(unittest.TestCase):
    def told(self, sheet, tape, begin, place, wanted):
        self.assertEqual(cut(sheet, tape, begin, place), wanted)

    def test_each_place(self):
        tape = [0, 3, 0, 1, 2, 1]
        self.told(PLAIN, tape, 0, 0, ([], tape))
        self.told(PLAIN, tape, 0, 1, ([0], [3, 0, 1, 2, 1]))
        self.told(PLAIN, tape, 0, 2, ([0, 3], [3, 0, 1, 2, 1]))
        self.told(PLAIN, tape, 0, 3, ([0, 3, 0], [3, 1, 2, 1]))
        self.told(PLAIN, tape, 0, 4, ([0, 3, 0, 1], [2, 1]))
        self.told(PLAIN, tape, 0, 5, ([0, 3, 0, 1, 2], [1]))
        self.told(PLAIN, tape, 0, 6, (tape, []))

    def test_each_place_from_set_one(self):
        tape = [0, 2, 0, 1, 3, 1]
        self.told(PLAIN, tape, 1, 0, ([], tape))
        self.told(PLAIN, tape, 1, 1, ([0], [2, 0, 1, 3, 1]))
        self.told(PLAIN, tape, 1, 2, ([0, 2], [2, 0, 1, 3, 1]))
        self.told(PLAIN, tape, 1, 3, ([0, 2, 0], [2, 1, 3, 1]))
        self.told(PLAIN, tape, 1, 4, ([0, 2, 0, 1], [3, 1]))
        self.told(PLAIN, tape, 1, 5, ([0, 2, 0, 1, 3], [1]))
        self.told(PLAIN, tape, 1, 6, (tape, []))

    def test_the_back_is_read_alike(self):
        self.told(SHARED, [4, 2, 2, 2], 0, 2, ([4, 2], [2, 2]))
        self.told(SHARED, [4, 2, 2, 0], 0, 2, ([4, 2], [4, 2, 0]))
        self.told(SHARED, [4, 2, 2, 4, 0], 0, 2, ([4, 2], [2, 4, 0]))

    def test_no_code_behind(self):
        self.told(PLAIN, [], 0, 0, ([], []))
        self.told(PLAIN, [], 1, 0, ([], []))
        self.told(PLAIN, [3], 0, 1, ([3], []))
        self.told(PLAIN, [2], 1, 1, ([2], []))

    def test_home(self):
        self.told(HOMED, [0, 1, 0], 1, 2, ([0, 1], [2, 0]))
        self.told(HOMED, [0, 1, 0], 1, 1, ([0], [1, 0]))
        self.told(HOMED, [3, 1, 0], 0, 1, ([3], [3, 1, 0]))
        self.told(HOMED, [3, 1, 0], 0, 2, ([3, 1], [0]))
        self.told(("ab ", "xy ", 2), [4, 2, 0], 0, 1, ([4], [2, 0]))

    def test_a_hundred_codes(self):
        tape = [3] + [0] * 99
        self.told(PLAIN, tape, 0, 0, ([], tape))
        self.told(PLAIN, tape, 0, 1, ([3], tape))
        self.told(PLAIN, tape, 0, 99, ([3] + [0] * 98, [3, 0]))
        self.told(PLAIN, tape, 0, 100, (tape, []))

    def test_bad_places(self):
        for tape in ([], [0], [0, 3, 0], [0] * 100):
            for place in (-1, -2, len(tape) + 1, len(tape) + 2, HUGE, -HUGE):
                refusal(self, BadCount, cut, PLAIN, tape, 0, place)
                refusal(self, BadCount, cut, PLAIN, tape, 1, place)

    def test_kinds(self):
        for place in range(4):
            told = cut(PLAIN, [3, 0, 0], 0, place)
            self.assertIs(type(told), tuple)
            self.assertEqual([type(part) for part in told], [list, list])

    def test_all_short_tapes(self):
        for sheet in SHEETS:
            for length in range(5):
                for codes in product(range(len(sheet[0]) + 2), repeat=length):
                    tape = list(codes)
                    for begin in (0, 1):
                        for place in range(length + 1):
                            self.told(sheet, tape, begin, place, self.by_the_words(sheet, tape, begin, place))

    def by_the_words(self, sheet, tape, begin, place):
        front, back = tape[:place], tape[place:]
        there = plain_end(sheet, front, begin)
        with_shift = [len(sheet[0]) + there] + back
        if plain_read(sheet, with_shift, begin) == plain_read(sheet, back, begin):
            return front, back
        return front, with_shift


class ReadAsBefore(unittest.TestCase):
    """Point 11."""

    def some(self):
        # The seed is told, so that each run holds the same tapes.
        chance = random.Random(11)
        for run in range(80):
            shared = chance.sample(LOW, chance.randint(0, 26))
            zero = shared + list("0123456789!?.,:;+-*/=()<>#")[:26 - len(shared)]
            one = shared + chance.sample(HIGH, 26 - len(shared))
            if run % 3 == 0:
                chance.shuffle(one)
            sheet = ("".join(zero), "".join(one), chance.choice([None, *range(26)]))
            yield chance, sheet, [*range(26), *[26, 27] * chance.choice([1, 6, 20])], run % 2

    def held(self, sheet, tapes, begin):
        whole = joined(sheet, tapes, begin)
        texts = [read(sheet, tape, begin) for tape in tapes]
        self.assertEqual(plain_read(sheet, whole, begin), "".join(texts), (sheet, tapes, begin))

    def test_joined(self):
        for chance, sheet, codes, begin in self.some():
            tapes = [[chance.choice(codes) for _ in range(chance.choice([0, 1, 2, 3, 60, 100]))] for _ in range(20)]
            self.held(sheet, tapes, begin)
            self.held(sheet, [tape[:2] for tape in tapes], begin)

    def test_joined_from_short_tapes(self):
        for sheet in SHEETS:
            codes = range(len(sheet[0]) + 2)
            tapes = [list(tape) for length in range(3) for tape in product(codes, repeat=length)]
            for pair in product(tapes, repeat=2):
                for begin in (0, 1):
                    self.held(sheet, [*pair, pair[1], [0]], begin)

    def test_cut(self):
        for chance, sheet, codes, begin in self.some():
            tape = [chance.choice(codes) for _ in range(100)]
            text = read(sheet, tape, begin)
            for place in range(101):
                front, back = cut(sheet, tape, begin, place)
                self.assertEqual(front, tape[:place])
                ahead = read(sheet, front, begin)
                self.assertEqual(text[:len(ahead)], ahead)
                self.assertEqual(ahead + read(sheet, back, begin), text, (sheet, tape, begin, place))

    def test_cut_and_joined_again(self):
        for chance, sheet, codes, begin in self.some():
            tape = [chance.choice(codes) for _ in range(60)]
            text = read(sheet, tape, begin)
            for place in range(61):
                whole = joined(sheet, list(cut(sheet, tape, begin, place)), begin)
                self.assertEqual(read(sheet, whole, begin), text, (sheet, tape, begin, place))

    def test_joined_and_cut_again(self):
        tapes = [[3, 0], [1], [0, 3, 1]]
        whole = joined(PLAIN, tapes, 0)
        front, back = cut(PLAIN, whole, 0, 2)
        self.assertEqual((read(PLAIN, front, 0), read(PLAIN, back, 0)), ("x", "bay"))
        self.assertEqual(last_set(PLAIN, back, 0), last_set(PLAIN, whole, 0))


class Interface(unittest.TestCase):
    def test_defined_in_the_file(self):
        self.assertEqual(joining.joined.__module__, "shifttape.joining")
        self.assertEqual(joining.cut.__module__, "shifttape.joining")

    def test_arguments_by_name(self):
        self.assertEqual(joined(sheet=PLAIN, tapes=[[3], [0]], begin=0), [3, 2, 0])
        self.assertEqual(cut(sheet=PLAIN, tape=[3, 0], begin=0, place=1), ([3], [3, 0]))


if __name__ == "__main__":
    unittest.main()
