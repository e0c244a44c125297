"""The interface's error classes."""

import unittest

from breakreports import errors
from breakreports.errors import (
    BadAgain,
    BadKeys,
    BadMoves,
    BadOrder,
    BadPlan,
    BadReport,
    BadRows,
    BadSize,
    BadText,
    ReportError,
)

BARE = (BadSize, BadAgain, BadKeys)
NUMBERED = (BadRows, BadOrder, BadPlan, BadMoves)
ALL = BARE + NUMBERED + (BadReport, BadText)


class TestErrors(unittest.TestCase):
    def test_any_refusal_is_a_value_error(self):
        self.assertEqual(ReportError.__bases__, (ValueError,))

    def test_each_stands_right_under_report_error(self):
        for error in ALL:
            with self.subTest(error=error.__name__):
                self.assertEqual(error.__bases__, (ReportError,))
                self.assertTrue(issubclass(error, ValueError))

    def test_none_stands_under_another_one(self):
        for error in ALL:
            for other in ALL:
                if error is not other:
                    self.assertFalse(issubclass(error, other), (error, other))

    def test_no_other_error_is_listed(self):
        found = [worth for worth in vars(errors).values() if isinstance(worth, type)]
        self.assertEqual(set(found), {*ALL, ReportError})

    def test_bare_ones_are_made_of_a_text(self):
        for error in BARE:
            self.assertEqual(str(error("told")), "told")

    def test_number_is_set(self):
        for error in NUMBERED:
            with self.subTest(error=error.__name__):
                self.assertEqual(vars(error(7)), {"number": 7})
                self.assertTrue(str(error(7)))

    def test_part_and_number_are_set(self):
        self.assertEqual(vars(BadReport("keys", 2)), {"part": "keys", "number": 2})
        self.assertTrue(str(BadReport("keys", 2)))

    def test_row_is_set(self):
        self.assertEqual(vars(BadText(4)), {"row": 4})
        self.assertTrue(str(BadText(4)))


if __name__ == "__main__":
    unittest.main()
