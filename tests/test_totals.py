"""All totals of a report [7]."""

import unittest

from breakreports.lines import totals
from samples import ALL_SUMS, report_with

ROWS = [(1, 1, 10), (1, 1, 20), (1, 2, 30), (2, 2, 40), (2, 3, 50)]


class TestTotals(unittest.TestCase):
    def test_no_keys(self):
        report = report_with(keys=(), heads=(False,), feet=(None,))
        self.assertEqual(totals(report, [(3, 2, 9), (1, 1, 4)]), [[((), (2, 13, 4, 9))]])

    def test_two_keys(self):
        self.assertEqual(totals(report_with(), ROWS), [
            [((), (5, 150, 10, 50))],
            [((1,), (3, 60, 10, 30)), ((2,), (2, 90, 40, 50))],
            [
                ((1, 1), (2, 30, 10, 20)),
                ((1, 2), (1, 30, 30, 30)),
                ((2, 2), (1, 40, 40, 40)),
                ((2, 3), (1, 50, 50, 50)),
            ],
        ])

    def test_three_keys(self):
        report = (3, (2, 1, 0), (), (("sum", 0),), (True,) * 4, (None,) * 4, True)
        self.assertEqual(totals(report, [(5, 0, 0), (6, 0, 0), (6, 1, 0), (1, 1, 2)]), [
            [((), (18,))],
            [((0,), (17,)), ((2,), (1,))],
            [((0, 0), (11,)), ((0, 1), (6,)), ((2, 1), (1,))],
            [((0, 0, 5), (5,)), ((0, 0, 6), (6,)), ((0, 1, 6), (6,)), ((2, 1, 1), (1,))],
        ])

    def test_heads_feet_and_detail_change_nothing(self):
        whole = totals(report_with(), ROWS)
        quiet = report_with(heads=(False,) * 3, feet=(None,) * 3, detail=False)
        self.assertEqual(totals(quiet, ROWS), whole)
        unheld = report_with(feet=(((0,), (0, "lt", 0)),) * 3)
        self.assertEqual(totals(unheld, ROWS), whole)

    def test_rows_that_are_left_out_dont_count(self):
        report = report_with(tests=((2, "ne", 30), (2, "lt", 50)))
        self.assertEqual(totals(report, ROWS), [
            [((), (3, 70, 10, 40))],
            [((1,), (2, 30, 10, 20)), ((2,), (1, 40, 40, 40))],
            [((1, 1), (2, 30, 10, 20)), ((2, 2), (1, 40, 40, 40))],
        ])

    def test_no_row_in(self):
        told = [[((), (0, 0, None, None))], [], []]
        self.assertEqual(totals(report_with(), []), told)
        self.assertEqual(totals(report_with(tests=((0, "lt", 0),)), ROWS), told)

    def test_no_row_in_and_no_keys(self):
        report = report_with(keys=(), heads=(True,), feet=(None,))
        self.assertEqual(totals(report, []), [[((), (0, 0, None, None))]])

    def test_no_sums(self):
        report = report_with(sums=(), feet=(None, None, None))
        self.assertEqual(totals(report, ROWS[2:4]), [
            [((), ())],
            [((1,), ()), ((2,), ())],
            [((1, 2), ()), ((2, 2), ())],
        ])
        self.assertEqual(totals(report, []), [[((), ())], [], []])

    def test_sums_in_the_order_of_the_report(self):
        report = report_with(keys=(), sums=ALL_SUMS[::-1], heads=(True,), feet=(None,))
        self.assertEqual(totals(report, ROWS), [[((), (50, 10, 150, 5))]])

    def test_a_list_of_lists_of_tuples(self):
        told = totals(report_with(), ROWS)
        self.assertIs(told.__class__, list)
        for level in told:
            self.assertIs(level.__class__, list)
            for pair in level:
                self.assertEqual([thing.__class__ for thing in (pair, *pair)], [tuple, tuple, tuple])


if __name__ == "__main__":
    unittest.main()
