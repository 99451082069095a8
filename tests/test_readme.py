"""The example of README.md."""

import unittest

from shifttape.reading import last_set, read
from shifttape.shortest import either, shortest

SHEET = ("abc ", "12! ", 3)


class Readme(unittest.TestCase):
    def test_example(self):
        self.assertEqual(read(SHEET, [0, 5, 1, 2, 3, 1], 0), "a2! b")
        self.assertEqual(last_set(SHEET, [0, 5, 1], 0), 1)
        self.assertEqual(shortest(SHEET, "a2! b", 0), [0, 5, 1, 2, 3, 1])
        self.assertEqual(either(SHEET, "a2! b"), [4, 0, 5, 1, 2, 3, 1])


if __name__ == "__main__":
    unittest.main()
