"""The classes of refusals."""

import unittest

from ghostkeys import errors


class ErrorsTest(unittest.TestCase):
    NAMES = ("BadBoard", "BadChord", "NoReading", "BadWish", "BadCount", "BadText")

    def test_each_stands_right_under_keyboard_error(self):
        self.assertEqual(errors.KeyboardError.__bases__, (ValueError,))
        for name in self.NAMES:
            self.assertEqual(getattr(errors, name).__bases__, (errors.KeyboardError,), name)

    def test_each_is_defined_in_its_file(self):
        for name in ("KeyboardError", *self.NAMES):
            self.assertEqual(getattr(errors, name).__module__, "ghostkeys.errors")
            self.assertEqual(getattr(errors, name).__name__, name)

    def test_values_are_set_when_an_error_is_created(self):
        board = errors.BadBoard("keys", 12)
        self.assertEqual((board.word, board.number), ("keys", 12))
        self.assertEqual(errors.BadChord(3).place, 3)
        self.assertEqual(errors.NoReading(5).moment, 5)
        self.assertEqual(errors.BadWish(8).number, 8)
        self.assertEqual(errors.BadText(2).row, 2)

    def test_each_is_caught_as_any_refusal_and_no_other(self):
        made = (
            errors.BadBoard("lines", 0), errors.BadChord(0), errors.NoReading(0),
            errors.BadWish(0), errors.BadCount("keys"), errors.BadText(0),
        )
        for name, error in zip(self.NAMES, made):
            with self.assertRaises(errors.KeyboardError):
                raise error
            kinds = [other for other in self.NAMES if isinstance(error, getattr(errors, other))]
            self.assertEqual(kinds, [name])


if __name__ == "__main__":
    unittest.main()
