"""The refusals: which stand under which, and their fields."""

import unittest

from arcmill.errors import MillError, NoKin, NoNumber, NoPiece, NoRow, NoText, TooMuch

PLAIN = [NoNumber, NoPiece, TooMuch, NoKin]
ALL = PLAIN + [NoRow, NoText]


class Errors(unittest.TestCase):
    def test_each_is_a_mill_error_and_a_value_error(self):
        self.assertTrue(issubclass(MillError, ValueError))
        for refusal in ALL:
            self.assertTrue(issubclass(refusal, MillError))
            self.assertIsNot(refusal, MillError)

    def test_none_stands_under_another_one(self):
        for one in ALL:
            for other in ALL:
                if one is not other:
                    self.assertFalse(issubclass(one, other), (one, other))

    def test_plain_refusals_are_raised_and_taken_by_name(self):
        for refusal in PLAIN:
            for taken in (refusal, MillError, ValueError):
                with self.assertRaises(taken):
                    raise refusal("why")

    def test_field_row(self):
        for row in (0, 7, -3, 10 ** 60 - 1):
            with self.assertRaises(MillError) as told:
                raise NoRow(row)
            self.assertEqual(told.exception.row, row)
            self.assertFalse(hasattr(told.exception, "line"))

    def test_field_line(self):
        for line in (0, 7, 4999):
            with self.assertRaises(MillError) as told:
                raise NoText(line)
            self.assertEqual(told.exception.line, line)
            self.assertFalse(hasattr(told.exception, "row"))

    def test_fields_are_each_object_s_own(self):
        one, other = NoRow(1), NoRow(2)
        self.assertEqual((one.row, other.row), (1, 2))

    def test_fields_by_name(self):
        self.assertEqual(NoRow(row=4).row, 4)
        self.assertEqual(NoText(line=5).line, 5)


if __name__ == "__main__":
    unittest.main()
