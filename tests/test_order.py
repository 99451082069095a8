"""Of several what is handed in first is refused, by every function of the interface."""

import unittest
from itertools import product

from shifttape.errors import BadCount, BadSet, BadSheet, BadTape, BadText, NoSign
from shifttape.guarding import guarded, is_guarded
from shifttape.joining import cut, joined
from shifttape.losses import lost_at, spoilt
from shifttape.reading import last_set, read
from shifttape.shortest import either, shortest
from shifttape.texts import read_sheet, written
from tests.helper import refusal

HUGE = 10 ** 60 - 1
GOOD = {
    "sheet": ("ab", "cd", 1),
    "tape": [0, 3, 1],
    "tapes": [[0], [], [3, 1]],
    "set": 1,
    "text": "abcd",
    "any": "abcd",
    "number": 2,
    "place": 3,
    "rows": "ab\ncd\n1",
}
BAD = {
    "sheet": [("a", "", None), ("aa", "bc", None), ("a", "b", 1)],
    "tape": [[0, 4], [-1], [HUGE, 0], [0] * 101],
    "tapes": [[[0], [0, 4]], [[0] * 101], [[], [-1], [0, 9]]],
    "set": [2, -1, HUGE],
    "text": ["ax", "a" * 33, "?"],
    "number": [-1, 33, HUGE],
    "place": [-1, 4, HUGE],
    "rows": ["ab", "ab\ncd\n01", "a\tb\ncd\n-"],
}
REFUSED = {
    "sheet": BadSheet,
    "tape": BadTape,
    "tapes": BadTape,
    "set": BadSet,
    "text": NoSign,
    "number": BadCount,
    "place": BadCount,
    "rows": BadText,
}
FUNCTIONS = (
    (read, ("sheet", "tape", "set")),
    (last_set, ("sheet", "tape", "set")),
    (shortest, ("sheet", "text", "set")),
    (either, ("sheet", "text")),
    (spoilt, ("sheet", "tape", "set")),
    (lost_at, ("sheet", "tape", "set", "any")),
    (guarded, ("sheet", "text", "set", "number")),
    (is_guarded, ("sheet", "tape", "set", "number")),
    (joined, ("sheet", "tapes", "set")),
    (cut, ("sheet", "tape", "set", "place")),
    (written, ("sheet",)),
    (read_sheet, ("rows",)),
)


def handed_in(kinds):
    """Go through what can be handed in: the first kind that is bad, or None, and the values."""
    choices = [[(None, GOOD[kind])] + [(kind, value) for value in BAD.get(kind, [])] for kind in kinds]
    for row in product(*choices):
        first = next((kind for kind, _ in row if kind), None)
        yield first, [value for _, value in row]


class Order(unittest.TestCase):
    def test_all_good(self):
        for action, kinds in FUNCTIONS:
            action(*[GOOD[kind] for kind in kinds])

    def test_the_first_is_refused(self):
        for action, kinds in FUNCTIONS:
            for first, values in handed_in(kinds):
                if first:
                    refusal(self, REFUSED[first], action, *values)
                else:
                    action(*values)

    def test_the_place_of_the_first(self):
        sheet = GOOD["sheet"]
        for action in (read, last_set, spoilt):
            self.assertEqual(refusal(self, BadTape, action, sheet, [0, 4], 2).place, 1)
            self.assertEqual(refusal(self, BadTape, action, sheet, [0] * 101, -1).place, 100)
        self.assertEqual(refusal(self, NoSign, shortest, sheet, "ax", 2).place, 1)
        self.assertEqual(refusal(self, NoSign, guarded, sheet, "a" * 33, 2, 99).place, 32)
        self.assertEqual(refusal(self, BadTape, lost_at, sheet, [0, 0, 9], 2, "?").place, 2)
        self.assertEqual(refusal(self, BadTape, is_guarded, sheet, [0, 0, 9], 2, 99).place, 2)
        self.assertEqual(refusal(self, BadTape, joined, sheet, [[0, 9], [9]], 2).place, 1)
        self.assertEqual(refusal(self, BadTape, cut, sheet, [0, 9], 2, 99).place, 1)

    def test_any_text_is_not_refused(self):
        for text in ("?", "a" * 33, "\n"):
            self.assertEqual(lost_at(GOOD["sheet"], [0, 3, 1], 0, text), [])
            refusal(self, BadSet, lost_at, GOOD["sheet"], [0, 3, 1], 2, text)


if __name__ == "__main__":
    unittest.main()
