"""What rows are and which are in [4], in_order [4], and rows whose keys fall [5]."""

import unittest

from breakreports.errors import BadOrder, BadRows
from breakreports.lines import lines, totals
from breakreports.reports import in_order
from samples import OF_RISING, OF_ROWS, done_of, plain_report, refused, report_with


class TestRows(unittest.TestCase):
    def assert_refused(self, report, rows, number):
        for ask in OF_ROWS:
            with self.subTest(ask=ask.__name__, rows=rows):
                refusal = refused(BadRows, ask, report, rows)
                self.assertEqual(refusal.number, number)
                self.assertIs(refusal.number.__class__, int)

    def test_sixty_are_allowed(self):
        rows = [(number,) for number in range(60)]
        report = plain_report(1, (0,))
        self.assertEqual(in_order(report, rows), list(range(60)))
        self.assertEqual(lines(report, rows), [("row", number) for number in range(60)])
        self.assertEqual(totals(report, rows)[1][59], ((59,), ()))

    def test_the_sixty_first_is_refused(self):
        good = [(7,)] * 60
        for more in ([(7,)], [(7,)] * 2, [(7,)] * 40, [None], [(7,), None]):
            self.assert_refused(plain_report(), good + more, 60)

    def test_the_sixty_first_is_refused_though_rows_are_left_out(self):
        self.assert_refused(plain_report(1, (), ((0, "eq", 1),)), [(7,)] * 61, 60)

    def test_a_wrong_row_goes_ahead_of_the_sixty_first(self):
        self.assert_refused(plain_report(), [(7,)] * 30 + [(1000,)] + [(7,)] * 30, 30)
        self.assert_refused(plain_report(), [(7,)] * 59 + [None, (7,)], 59)

    def test_a_row_that_cant_be_is_refused_first_in_the_middle_and_last(self):
        good = [(0, 1, 2), (3, 4, 5), (6, 7, 8)]
        wrong = (
            (), (1,), (1, 2), (1, 2, 3, 4), "", "abc", 0, 1, 3, True, False, None,
            (-1, 0, 0), (0, -1, 0), (0, 0, -1), (1000, 0, 0), (0, 1000, 0), (0, 0, 1000),
            (True, 0, 0), (0, False, 0), (0, 0, True), (None, 0, 0), (0, "1", 0), (0, 0, (0,)), ((0, 0, 0),),
        )
        for row in wrong:
            for at in range(3):
                self.assert_refused(report_with(), good[:at] + [row] + good[at + 1:], at)
            self.assert_refused(report_with(), [row, row, row], 0)

    def test_a_row_has_as_many_numbers_as_fields(self):
        for fields in (1, 2, 3, 4, 5):
            for many in range(7):
                rows = [(0,) * many]
                if many == fields:
                    self.assertEqual(in_order(plain_report(fields), rows), [0])
                else:
                    self.assert_refused(plain_report(fields), rows, 0)

    def test_edges_are_allowed(self):
        self.assertEqual(in_order(plain_report(3), [(0, 999, 500)]), [0])

    def test_a_row_that_cant_be_is_refused_though_a_test_would_leave_it_out(self):
        self.assert_refused(plain_report(2, (), ((0, "eq", 1),)), [(0, 0), (0, 1000)], 1)


class TestWhichAreIn(unittest.TestCase):
    def assert_in(self, tests, rows, numbers):
        report = plain_report(len(rows[0]), (), tests)
        self.assertEqual(in_order(report, rows), numbers)
        self.assertEqual(lines(report, rows), [("row", number) for number in numbers])

    def test_each_word_below_at_and_above_the_number(self):
        rows = [(4,), (5,), (6,)]
        self.assert_in(((0, "eq", 5),), rows, [1])
        self.assert_in(((0, "ne", 5),), rows, [0, 2])
        self.assert_in(((0, "ge", 5),), rows, [1, 2])
        self.assert_in(((0, "lt", 5),), rows, [0])

    def test_each_word_at_the_least_and_the_greatest_number(self):
        rows = [(0,), (1,), (998,), (999,)]
        self.assert_in(((0, "eq", 0),), rows, [0])
        self.assert_in(((0, "ne", 0),), rows, [1, 2, 3])
        self.assert_in(((0, "ge", 0),), rows, [0, 1, 2, 3])
        self.assert_in(((0, "lt", 0),), rows, [])
        self.assert_in(((0, "eq", 999),), rows, [3])
        self.assert_in(((0, "ne", 999),), rows, [0, 1, 2])
        self.assert_in(((0, "ge", 999),), rows, [3])
        self.assert_in(((0, "lt", 999),), rows, [0, 1, 2])

    def test_a_test_looks_at_its_own_field(self):
        rows = [(1, 2, 3), (2, 3, 1), (3, 1, 2)]
        self.assert_in(((0, "eq", 1),), rows, [0])
        self.assert_in(((1, "eq", 1),), rows, [2])
        self.assert_in(((2, "eq", 1),), rows, [1])

    def test_all_tests_must_hold(self):
        rows = [(1, 1), (1, 2), (2, 1), (2, 2), (3, 3)]
        self.assert_in(((0, "ge", 2), (1, "ge", 2)), rows, [3, 4])
        self.assert_in(((0, "ge", 2), (1, "ge", 2), (0, "lt", 3)), rows, [3])
        self.assert_in(((0, "ne", 1), (0, "ne", 2), (1, "ge", 0), (1, "eq", 3)), rows, [4])
        self.assert_in(((0, "eq", 1), (0, "eq", 2)), rows, [])

    def test_without_tests_all_rows_are_in(self):
        self.assert_in((), [(0,), (999,), (5,)], [0, 1, 2])


class TestInOrder(unittest.TestCase):
    def test_by_one_key(self):
        self.assertEqual(in_order(plain_report(2, (1,)), [(0, 9), (1, 3), (2, 10), (3, 0)]), [3, 1, 0, 2])

    def test_the_first_key_weighs_most(self):
        rows = [(2, 1, 5), (1, 2, 5), (1, 1, 6), (2, 0, 7), (1, 1, 5)]
        self.assertEqual(in_order(plain_report(3, (0, 1)), rows), [2, 4, 1, 3, 0])
        self.assertEqual(in_order(plain_report(3, (1, 0)), rows), [3, 2, 4, 0, 1])
        self.assertEqual(in_order(plain_report(3, (0, 1, 2)), rows), [4, 2, 1, 3, 0])
        self.assertEqual(in_order(plain_report(3, (2, 1, 0)), rows), [4, 0, 1, 2, 3])

    def test_like_keys_stay_as_they_stand(self):
        rows = [(5, 9), (3, 8), (5, 1), (3, 7), (5, 0), (3, 9)]
        self.assertEqual(in_order(plain_report(2, (0,)), rows), [1, 3, 5, 0, 2, 4])

    def test_without_keys_all_stay_as_they_stand(self):
        self.assertEqual(in_order(plain_report(), [(3,), (1,), (2,), (1,)]), [0, 1, 2, 3])

    def test_rows_that_are_left_out_keep_their_numbers(self):
        report = plain_report(2, (0,), ((1, "ne", 0),))
        self.assertEqual(in_order(report, [(9, 0), (8, 1), (1, 0), (7, 1), (8, 2), (0, 0)]), [3, 1, 4])

    def test_no_rows(self):
        self.assertEqual(in_order(report_with(), []), [])
        self.assertEqual(in_order(plain_report(1, (0,), ((0, "lt", 0),)), [(1,), (0,)]), [])


class TestOrder(unittest.TestCase):
    def assert_refused(self, report, rows, number):
        for ask in OF_RISING:
            with self.subTest(ask=ask.__name__, rows=rows):
                refusal = refused(BadOrder, ask, report, rows)
                self.assertEqual(refusal.number, number)
                self.assertIs(refusal.number.__class__, int)
        for ask in (in_order, done_of):
            self.assertIsNotNone(ask(report, rows))

    def assert_allowed(self, report, rows):
        for ask in OF_RISING:
            with self.subTest(ask=ask.__name__, rows=rows):
                self.assertIsInstance(ask(report, rows), list)

    def test_the_first_that_falls_is_told(self):
        report = plain_report(1, (0,))
        self.assert_refused(report, [(1,), (0,)], 1)
        self.assert_refused(report, [(1,), (2,), (1,), (0,)], 2)
        self.assert_refused(report, [(1,), (2,), (3,), (2,), (1,)], 3)
        self.assert_refused(report, [(5,), (2,), (9,), (3,)], 1)

    def test_the_row_ahead_counts_not_the_first_one(self):
        self.assert_refused(plain_report(1, (0,)), [(1,), (5,), (3,)], 2)

    def test_keys_fall_as_tuples(self):
        report = plain_report(3, (2, 0))
        self.assert_allowed(report, [(9, 0, 1), (0, 0, 2), (1, 0, 2)])
        self.assert_refused(report, [(0, 0, 2), (9, 0, 1)], 1)
        self.assert_refused(report, [(0, 0, 1), (1, 0, 2), (0, 0, 2)], 2)

    def test_a_fall_of_the_third_key_alone(self):
        report = plain_report(3, (0, 1, 2))
        self.assert_allowed(report, [(1, 1, 9), (1, 2, 0), (2, 0, 0)])
        self.assert_refused(report, [(1, 1, 9), (1, 1, 8)], 1)

    def test_rows_that_are_not_in_dont_count(self):
        report = plain_report(2, (0,), ((1, "eq", 1),))
        self.assert_allowed(report, [(5, 1), (9, 0), (6, 1), (0, 0), (6, 1), (7, 1)])
        self.assert_refused(report, [(5, 1), (0, 0), (9, 0), (4, 1), (0, 1)], 3)
        self.assert_refused(report, [(0, 0), (5, 1), (1, 0), (5, 1), (9, 0), (2, 0), (4, 1)], 6)

    def test_like_keys_are_no_fall(self):
        self.assert_allowed(plain_report(2, (0,)), [(3, 9), (3, 1), (3, 5), (4, 0), (4, 0)])

    def test_without_keys_nothing_falls(self):
        self.assert_allowed(plain_report(), [(3,), (2,), (1,)])

    def test_a_wrong_row_goes_ahead_of_a_fall(self):
        report = plain_report(1, (0,))
        for ask in OF_RISING:
            self.assertEqual(refused(BadRows, ask, report, [(2,), (1,), (1000,)]).number, 2)
            self.assertEqual(refused(BadRows, ask, report, [(2,), (1,)] + [(5,)] * 59).number, 60)


if __name__ == "__main__":
    unittest.main()
