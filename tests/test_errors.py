"""The errors of the interface: their bases and their fields."""

import unittest

from shipsrow import errors

PLAIN = ("BadShape", "BadShips", "BadGap", "BadNumber", "NoPlace", "BadCell", "Over")
WITH_INDEX = ("BadPart", "BadSeen", "BadOrder")


class ErrorsTest(unittest.TestCase):
    def test_base_is_a_value_error(self):
        self.assertEqual(errors.SeaError.__bases__, (ValueError,))

    def test_all_are_direct_subclasses(self):
        for name in PLAIN + WITH_INDEX + ("BadLine",):
            self.assertEqual(getattr(errors, name).__bases__, (errors.SeaError,), name)

    def test_errors_with_an_index(self):
        for name in WITH_INDEX:
            kind = getattr(errors, name)
            self.assertEqual(kind(3).index, 3)
            self.assertEqual(kind(index=0).index, 0)
        self.assertIsNone(errors.BadPart(None).index)

    def test_line_and_word(self):
        error = errors.BadLine(1, 4)
        self.assertEqual((error.line, error.word), (1, 4))
        error = errors.BadLine(line=2, word=5)
        self.assertEqual((error.line, error.word), (2, 5))

    def test_are_caught_as_sea_errors(self):
        for name in PLAIN:
            with self.assertRaises(errors.SeaError):
                raise getattr(errors, name)("told")


if __name__ == "__main__":
    unittest.main()
