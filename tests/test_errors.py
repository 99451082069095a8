import unittest

from shifttape import errors
from tests.helper import REFUSALS


class Errors(unittest.TestCase):
    def test_any_refusal_is_a_value_error(self):
        self.assertTrue(issubclass(errors.TapeError, ValueError))

    def test_each_stands_straight_under_tape_error(self):
        for kind in REFUSALS:
            self.assertEqual(kind.__bases__, (errors.TapeError,), kind)

    def test_none_stands_under_another(self):
        for kind in REFUSALS:
            above = [other for other in REFUSALS if issubclass(kind, other)]
            self.assertEqual(above, [kind])

    def test_all_are_defined_in_the_file(self):
        for kind in (errors.TapeError, *REFUSALS):
            self.assertEqual(kind.__module__, "shifttape.errors")

    def test_values_are_set_on_each(self):
        self.assertEqual(errors.BadTape(7).place, 7)
        self.assertEqual(errors.NoSign(32).place, 32)
        self.assertEqual(errors.BadText(2).row, 2)
        first, second = errors.BadTape(1), errors.BadTape(2)
        self.assertEqual((first.place, second.place), (1, 2))


if __name__ == "__main__":
    unittest.main()
