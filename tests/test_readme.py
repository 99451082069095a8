"""The example of README.md."""

import unittest

from shifttape.guarding import guarded, is_guarded
from shifttape.joining import cut, joined
from shifttape.losses import lost_at, spoilt
from shifttape.reading import last_set, read
from shifttape.shortest import either, shortest
from shifttape.texts import read_sheet, written

SHEET = ("abc ", "12! ", 3)
TAPE = [0, 5, 1, 2, 3, 1]


class Readme(unittest.TestCase):
    def test_reading_and_shortest(self):
        self.assertEqual(read(SHEET, TAPE, 0), "a2! b")
        self.assertEqual(last_set(SHEET, [0, 5, 1], 0), 1)
        self.assertEqual(shortest(SHEET, "a2! b", 0), TAPE)
        self.assertEqual(either(SHEET, "a2! b"), [4, 0, 5, 1, 2, 3, 1])

    def test_losses_and_guarding(self):
        self.assertEqual(spoilt(SHEET, TAPE, 0), [(1, 2)])
        self.assertEqual(lost_at(SHEET, TAPE, 0, "abc b"), [1])
        self.assertIs(is_guarded(SHEET, TAPE, 0, 1), False)
        self.assertIs(is_guarded(SHEET, [0, 5, 1, 5, 2, 3, 1], 0, 1), True)
        self.assertEqual(len(guarded(SHEET, "a2! b", 0, 1)), 7)

    def test_joining_and_texts(self):
        self.assertEqual(joined(SHEET, [[5, 0], [1]], 0), [5, 0, 4, 1])
        self.assertEqual(cut(SHEET, TAPE, 0, 3), ([0, 5, 1], [5, 2, 3, 1]))
        self.assertEqual(written(SHEET), "abc \n12! \n3")
        self.assertEqual(read_sheet("abc \n12! \n3"), SHEET)


if __name__ == "__main__":
    unittest.main()
