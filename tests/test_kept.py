"""Point 1: nothing that is handed in is changed or kept, and what is told is new each time."""

import unittest
from copy import deepcopy

from shifttape.guarding import guarded, is_guarded
from shifttape.joining import cut, joined
from shifttape.losses import lost_at, spoilt
from shifttape.reading import last_set, read
from shifttape.shortest import either, shortest
from shifttape.texts import read_sheet, written
from tests.helper import refusal

AB = ("ab", "cd", 1)
SHARED = ("ab.", "cd.", None)
# Each function with things to hand in, and others of the same kinds.
ASKED = (
    (read, (AB, [0, 3, 1], 0), (SHARED, [4, 0], 1)),
    (last_set, (AB, [0, 3, 0], 0), (SHARED, [3], 1)),
    (shortest, (AB, "acdb", 0), (SHARED, "", 1)),
    (shortest, (AB, "", 0), (SHARED, "a", 1)),
    (either, (AB, "acdb"), (SHARED, "..")),
    (either, (AB, ""), (SHARED, "a")),
    (spoilt, (AB, [3, 0, 2, 0, 3], 0), (SHARED, [4, 2, 0], 0)),
    (spoilt, (AB, [], 0), (SHARED, [4], 0)),
    (lost_at, (AB, [3, 3, 0], 0, "c"), (SHARED, [4, 2], 0, ".")),
    (lost_at, (AB, [], 0, "c"), (SHARED, [3], 0, "")),
    (guarded, (AB, "acdb", 0, 0), (SHARED, "ca", 1, 3)),
    (guarded, (AB, "", 0, 0), (AB, "", 1, 0)),
    (guarded, (AB, "b", 0, 0), (AB, "", 0, 0)),
    (is_guarded, (AB, [3, 0, 0], 0, 1), (SHARED, [3, 2], 1, 0)),
    (joined, (AB, [[3, 0], [], [0, 1]], 0), (SHARED, [[4], [2]], 0)),
    (joined, (AB, [[3, 0]], 0), (AB, [[0]], 0)),
    (joined, (AB, [], 0), (AB, [[]], 0)),
    (cut, (AB, [3, 0, 0], 0, 2), (SHARED, [4, 2], 0, 1)),
    (cut, (AB, [3, 0, 0], 0, 0), (AB, [3, 0, 0], 0, 3)),
    (cut, (AB, [], 0, 0), (AB, [], 1, 0)),
    (written, (AB,), (SHARED,)),
    (read_sheet, ("ab\ncd\n1",), ("ab.\ncd.\n-",)),
)


def lists_in(told):
    """Return all lists in what is handed in or told, it itself among them."""
    if not isinstance(told, (list, tuple)):
        return []
    inner = [one for part in told for one in lists_in(part)]
    return inner + [told] if isinstance(told, list) else inner


def spoil(told):
    for one in lists_in(told):
        one.append(77)
        one.reverse()


class Kept(unittest.TestCase):
    def test_what_is_handed_in_stays(self):
        for action, given, _ in ASKED:
            handed = deepcopy(given)
            action(*handed)
            self.assertEqual(handed, given)

    def test_what_is_handed_in_may_be_changed_later(self):
        for action, given, _ in ASKED:
            handed = deepcopy(given)
            told = action(*handed)
            wanted = deepcopy(told)
            spoil(handed)
            self.assertEqual(told, wanted, (action, given))
            self.assertEqual(action(*deepcopy(given)), wanted, (action, given))

    def test_nothing_that_is_told_is_handed_in(self):
        for action, given, _ in ASKED:
            handed = deepcopy(given)
            told = action(*handed)
            for one in lists_in(told):
                self.assertFalse([other for other in lists_in(handed) if other is one], (action, given))

    def test_changing_what_is_told_changes_nothing_else(self):
        for action, given, others in ASKED:
            handed = deepcopy(given)
            first, between = action(*handed), action(*others)
            wanted, kept = deepcopy(first), deepcopy(between)
            spoil(first)
            self.assertEqual(handed, given, action)
            self.assertEqual(between, kept, action)
            self.assertEqual(action(*handed), wanted, (action, given))
            self.assertEqual(action(*others), kept, (action, others))

    def test_lists_in_what_is_told_are_not_one_another(self):
        for action, given, _ in ASKED:
            lists = lists_in(action(*given))
            self.assertEqual(len({id(one) for one in lists}), len(lists), (action, given))

    def test_asked_again_the_same_is_told(self):
        for action, given, others in ASKED:
            first = action(*given)
            for _ in range(3):
                action(*others)
                self.assertEqual(action(*given), first, (action, given))

    def test_asked_again_behind_a_refusal(self):
        for action, given, _ in ASKED:
            if action is not read_sheet:
                first = action(*given)
                self.assertRaises(ValueError, action, ("a", "", None), *given[1:])
                self.assertEqual(action(*given), first, (action, given))

    def test_what_is_refused_stays(self):
        tape, tapes = [0] * 101, [[0], [0, 9]]
        for action in (read, last_set, spoilt):
            self.assertRaises(ValueError, action, AB, tape, 0)
        for action, more in ((lost_at, "a"), (is_guarded, 1), (cut, 0)):
            self.assertRaises(ValueError, action, AB, tape, 0, more)
        self.assertRaises(ValueError, joined, AB, tapes, 0)
        self.assertEqual((tape, tapes), ([0] * 101, [[0], [0, 9]]))

    def test_a_refusal_is_new(self):
        for action, given in ((read, (AB, [9], 0)), (joined, (AB, [[9]], 0)), (guarded, (AB, "?", 0, 0))):
            errors = []
            for _ in range(2):
                with self.assertRaises(ValueError) as caught:
                    action(*given)
                errors.append(caught.exception)
            self.assertIsNot(errors[0], errors[1])
            errors[0].place = 5
            self.assertEqual(refusal(self, type(errors[1]), action, *given).place, 0)


if __name__ == "__main__":
    unittest.main()
