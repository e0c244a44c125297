"""What is said of everything [1]: nothing handed in is changed or kept, asked again the same is told."""

import copy
import unittest

from breakreports.errors import BadReport, ReportError
from breakreports.lines import totals
from samples import ASKED, refused, report_with

ROWS = [(1, 1, 10), (1, 1, 20), (1, 2, 0), (2, 2, 40)]
TESTED = report_with(tests=((2, "ne", 0),))


class TestUnchanged(unittest.TestCase):
    def test_report_and_rows_are_the_same_behind_a_call(self):
        for ask in ASKED:
            for report in (report_with(), TESTED):
                rows = list(ROWS)
                kept = copy.deepcopy(report)
                ask(report, rows)
                self.assertEqual(rows, ROWS)
                self.assertEqual(report, kept)

    def test_rows_are_the_same_behind_a_refusal(self):
        for ask in ASKED:
            for rows in ([(1, 1, 1), None, (0, 0, 0)], [(0, 0, 0)] * 61):
                kept = list(rows)
                with self.assertRaises(ReportError):
                    ask(report_with(), rows)
                self.assertEqual(rows, kept)

    def test_asked_again_the_same_is_told(self):
        for ask in ASKED:
            rows = list(ROWS)
            first = ask(TESTED, rows)
            kept = copy.deepcopy(first)
            self.assertEqual(ask(TESTED, rows), kept)
            first.append("changed")
            first[0] = None
            self.assertEqual(ask(TESTED, rows), kept)
            first.clear()
            self.assertEqual(ask(TESTED, rows), kept)
            self.assertEqual(rows, ROWS)

    def test_inner_lists_may_be_changed(self):
        for rows in (list(ROWS), []):
            first = totals(report_with(), rows)
            kept = copy.deepcopy(first)
            for level in first:
                level.append("changed")
                level[0] = None
            self.assertEqual(totals(report_with(), rows), kept)

    def test_inner_lists_are_no_one_list(self):
        told = totals(report_with(), [])
        told[1].append("changed")
        self.assertEqual(told[2], [])

    def test_an_answer_stays_as_it_was_where_rows_change_later(self):
        for ask in ASKED:
            rows = list(ROWS)
            told = ask(report_with(), rows)
            kept = copy.deepcopy(told)
            rows[0] = (0, 0, 0)
            rows.pop()
            self.assertEqual(told, kept)

    def test_changed_rows_are_asked_anew(self):
        for ask in ASKED:
            rows = list(ROWS)
            ask(report_with(), rows)
            rows.append((3, 3, 3))
            self.assertEqual(ask(report_with(), rows), ask(report_with(), ROWS + [(3, 3, 3)]))

    def test_refused_again_for_the_same(self):
        for ask in ASKED:
            first = refused(BadReport, ask, report_with(detail=0), [])
            again = refused(BadReport, ask, report_with(detail=0), [])
            self.assertEqual((first.part, first.number), (again.part, again.number))
            self.assertIsNot(first, again)


if __name__ == "__main__":
    unittest.main()
