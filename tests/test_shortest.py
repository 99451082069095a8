"""Points 5 and 6: shortest and either."""

import random
import unittest
from itertools import permutations, product

from shifttape import shortest as file
from shifttape.shortest import either, shortest
from tests.helper import first_tapes, plain_read, searched

LOW = "abcdefghijklmnopqrstuvwxyz"
HIGH = "ABCDEFGHIJKLMNOPQRSTUVWXYZ"


class ByHand(unittest.TestCase):
    def test_the_set_that_it_is_begun_in(self):
        sheet = ("ab", "xy", None)
        self.assertEqual(shortest(sheet, "ab", 0), [0, 1])
        self.assertEqual(shortest(sheet, "ab", 1), [2, 0, 1])
        self.assertEqual(shortest(sheet, "xy", 0), [3, 0, 1])
        self.assertEqual(shortest(sheet, "xy", 1), [0, 1])
        self.assertEqual(shortest(sheet, "axb", 1), [2, 0, 3, 0, 2, 1])

    def test_it_stays_where_more_signs_follow(self):
        # a is in both sets: begun in set 0 it is as short to shift ahead of a as behind it.
        sheet = ("ab", "xa", None)
        self.assertEqual(shortest(sheet, "ax", 0), [0, 3, 0])
        self.assertEqual(shortest(sheet, "ax", 1), [1, 0])
        self.assertEqual(shortest(sheet, "xab", 0), [3, 0, 1, 2, 1])

    def test_of_several_the_first(self):
        # a is code 0 in set 0 and code 1 in set 1; b stands in set 1 alone.
        sheet = ("ac", "ba", None)
        self.assertEqual(shortest(sheet, "aab", 0), [0, 0, 3, 0])
        self.assertEqual(either(sheet, "a"), [2, 0])
        self.assertEqual(either(sheet, "ab"), [3, 1, 0])
        self.assertEqual(either(sheet, "aac"), [2, 0, 0, 1])

    def test_home_saves_a_shift(self):
        sheet = ("a.", "x,", 1)
        self.assertEqual(shortest(sheet, "x,a", 0), [3, 0, 1, 0])
        self.assertEqual(shortest(sheet, "x,x", 0), [3, 0, 1, 3, 0])
        self.assertEqual(shortest(sheet, ".a", 0), [1, 0])

    def test_home_costs_a_shift(self):
        # Without a home the blank would be read in set 1 without leaving it.
        self.assertEqual(shortest(("a ", "x ", None), "x x", 0), [3, 0, 1, 0])
        self.assertEqual(shortest(("a ", "x ", 1), "x x", 0), [3, 0, 1, 3, 0])

    def test_either_without_a_shift(self):
        sheet = ("abc", "aby", None)
        self.assertEqual(either(sheet, "abba"), [0, 1, 1, 0])
        self.assertEqual(either(sheet, "abcab"), [0, 1, 3, 2, 0, 1])
        self.assertEqual(either(sheet, "yab"), [4, 2, 0, 1])

    def test_either_by_home(self):
        sheet = ("ab ", "xy ", 2)
        self.assertEqual(either(sheet, " ab"), [2, 0, 1])
        self.assertEqual(either(sheet, "  x"), [2, 2, 4, 0])
        self.assertEqual(either(sheet, "a "), [3, 0, 2])

    def test_either_where_the_code_home_is_two_signs(self):
        sheet = ("ab", "xy", 0)
        self.assertEqual(either(sheet, "a"), [2, 0])
        self.assertEqual(either(sheet, "x"), [3, 0])
        self.assertEqual(either(sheet, "xa"), [3, 0, 0])

    def test_a_sign_at_other_places_needs_a_shift(self):
        self.assertEqual(either(("ab", "ba", None), "ab"), [2, 0, 1])
        self.assertEqual(either(("ab", "ba", None), "ba"), [2, 1, 0])
        self.assertEqual(either(("cb", "ba", None), "ab"), [3, 1, 0])

    def test_no_sign(self):
        for sheet in (("a", "b", None), ("a", "a", 0), (LOW, HIGH, 3)):
            self.assertEqual(shortest(sheet, "", 0), [])
            self.assertEqual(shortest(sheet, "", 1), [])
            self.assertEqual(either(sheet, ""), [])

    def test_the_longest_there_is(self):
        sheet = ("a", "b", None)
        tape = [2, 0, 1, 0] * 16
        self.assertEqual(shortest(sheet, "ba" * 16, 0), tape)
        self.assertEqual(either(sheet, "ba" * 16), tape)
        self.assertEqual(shortest(sheet, "ba" * 16, 1), tape[1:])

    def test_kinds(self):
        for tape in (shortest(("a", "b", 0), "ab", 0), either(("a", "b", 0), "ab"), either(("a", "b", 0), "")):
            self.assertIs(type(tape), list)
            self.assertTrue(all(type(code) is int for code in tape))

    def test_defined_in_the_file(self):
        self.assertEqual(file.shortest.__module__, "shifttape.shortest")
        self.assertEqual(file.either.__module__, "shifttape.shortest")

    def test_arguments_by_name(self):
        self.assertEqual(shortest(sheet=("a", "b", None), text="b", begin=0), [2, 0])
        self.assertEqual(either(sheet=("a", "b", None), text="b"), [2, 0])


class AgainstAllTapes(unittest.TestCase):
    """Held against all tapes, by their length and then as lists ascend."""

    def held(self, zero, ones, longest):
        for one in ones:
            for home in (None, *range(len(zero))):
                sheet = (zero, one, home)
                # A shift ahead of each sign is always enough, so no shortest tape is left out.
                tables = first_tapes(sheet, 2 * longest)
                for length in range(longest + 1):
                    for signs in product(sorted(set(zero + one)), repeat=length):
                        self.compare(sheet, "".join(signs), tables)

    def compare(self, sheet, text, tables):
        from_zero, from_one, from_both = tables
        self.assertEqual(shortest(sheet, text, 0), from_zero[text], (sheet, text, 0))
        self.assertEqual(shortest(sheet, text, 1), from_one[text], (sheet, text, 1))
        self.assertEqual(either(sheet, text), from_both[text], (sheet, text, "either"))

    def test_one_sign(self):
        self.held("a", ["a", "b"], 5)

    def test_two_signs(self):
        self.held("ab", ["".join(pair) for pair in permutations("abcd", 2)], 3)

    def test_two_signs_and_longer_texts(self):
        self.held("ab", ["ba", "ac"], 4)

    def test_three_signs(self):
        self.held("abc", ["abc", "bca", "acb", "abd", "bad", "dab", "dca", "ade", "dea", "def"], 3)

    def test_four_signs(self):
        self.held("abcd", ["".join(four) for four in permutations("abce", 4)], 2)


class AgainstASearch(unittest.TestCase):
    """Held against a search from the front, which gets far enough for long texts over large sheets."""

    def held(self, sheet, text):
        for begin in (0, 1):
            tape = shortest(sheet, text, begin)
            self.assertEqual(tape, searched(sheet, text, (begin,)), (sheet, text, begin))
            self.assertEqual(plain_read(sheet, tape, begin), text)
        tape = either(sheet, text)
        self.assertEqual(tape, searched(sheet, text, (0, 1)), (sheet, text, "either"))
        self.assertEqual((plain_read(sheet, tape, 0), plain_read(sheet, tape, 1)), (text, text))

    def test_the_search_itself(self):
        sheet = ("ab", "bc", 1)
        from_zero, from_one, from_both = first_tapes(sheet, 6)
        for signs in product("abc", repeat=3):
            text = "".join(signs)
            self.assertEqual(searched(sheet, text, (0,)), from_zero[text])
            self.assertEqual(searched(sheet, text, (1,)), from_one[text])
            self.assertEqual(searched(sheet, text, (0, 1)), from_both[text])

    def test_all_signs_in_both_sets_turned_round(self):
        for home in (None, 0, 12, 25):
            sheet = (LOW, LOW[::-1], home)
            self.held(sheet, (LOW + LOW)[:32])
            self.held(sheet, (LOW[::-1] + LOW)[:32])

    def test_all_signs_at_the_same_places(self):
        for home in (None, 0, 25):
            self.held((LOW, LOW, home), (LOW + LOW)[:32])

    def test_no_sign_in_both_sets(self):
        for home in (None, 0, 25):
            self.held((LOW, HIGH, home), "aAbBZzYyabABZZzzYyYyXXXXaaaZaZzA")

    def test_mixed_sheets(self):
        # The seed is told, so that each run holds the same sheets and texts.
        chance = random.Random(20)
        for run in range(150):
            shared = chance.sample(LOW, chance.randint(10, 24))
            zero = shared + chance.sample("0123456789!?.,:;+-*/=()", 26 - len(shared))
            one = shared + chance.sample(HIGH, 26 - len(shared))
            if run % 3:
                chance.shuffle(one)
            if run % 3 == 2:
                # Some stay at the same place, others do not.
                still = [k for k in range(len(shared)) if k % 2]
                rest = [sign for sign in one if sign not in [zero[k] for k in still]]
                one = [zero[k] if k in still else rest.pop() for k in range(26)]
            sheet = ("".join(zero), "".join(one), chance.choice([None, *range(26)]))
            self.held(sheet, "".join(chance.choice(zero + one) for _ in range(32)))
            self.held(sheet, "".join(chance.choice(shared) for _ in range(31)) + chance.choice(one))


class New(unittest.TestCase):
    """Point 1: what is told is new each time."""

    def test_changing_an_answer_changes_no_later_one(self):
        sheet = ("ab", "xb", 1)
        for text in ("", "a", "xab", "bb", "xbxb"):
            for action, more in ((shortest, (0,)), (shortest, (1,)), (either, ())):
                first = action(sheet, text, *more)
                kept = list(first)
                first.append(9)
                first.reverse()
                second = action(sheet, text, *more)
                self.assertEqual(second, kept)
                self.assertIsNot(first, second)

    def test_one_answer_is_not_part_of_another(self):
        sheet = ("ab", "xb", None)
        first, second, both = shortest(sheet, "", 0), shortest(sheet, "", 1), either(sheet, "")
        first.append(1)
        second.append(2)
        self.assertEqual((first, second, both), ([1], [2], []))

    def test_the_sheet_stays(self):
        sheet = ("ab", "xb", 1)
        shortest(sheet, "xab", 0)
        either(sheet, "xab")
        self.assertEqual(sheet, ("ab", "xb", 1))


if __name__ == "__main__":
    unittest.main()
