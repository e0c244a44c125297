"""A plan's steps done [9], [10]."""

import unittest

from breakreports.errors import BadRows, BadSize
from breakreports.plans import done
from samples import plain_report, refused, report_with

END = ("end",)
NEXT = ("next", 0)
ROWS = [(1, 1, 10), (1, 2, 20), (2, 2, 30)]
TESTS = ((0, "eq", 1), (1, "ge", 2), (2, "ne", 30), (2, "lt", 20))
REPORT = report_with(tests=TESTS)
NEEDS_ROW = (("test", 0, 0), ("same", 1, 0), ("keep",), ("add",), ("row",))


def told(*steps, report=REPORT, rows=ROWS, most=5000):
    return done(report, steps, rows, most)


class TestMost(unittest.TestCase):
    def test_others_are_refused(self):
        for most in (-1, -5000, 5001, 5002, 10000, True, False):
            for plan in ((), (END,), (("go", 0),)):
                refused(BadSize, done, REPORT, plan, ROWS, most)

    def test_edges_are_allowed(self):
        for most in (0, 1, 2, 4999, 5000):
            self.assertEqual(told(("go", 0), most=most), ([], ""))

    def test_as_many_as_told_are_done(self):
        plan = (("head", 0), ("go", 0))
        for most in (0, 1, 2, 3, 4, 7, 4999, 5000):
            lines = [("head", 0, ())] * ((most + 1) // 2)
            self.assertEqual(told(*plan, most=most), (lines, ""))


class TestHowItEnds(unittest.TestCase):
    def test_end(self):
        self.assertEqual(told(END), ([], "end"))
        self.assertEqual(told(END, most=1), ([], "end"))
        self.assertEqual(told(END, ("head", 0)), ([], "end"))
        self.assertEqual(told(("head", 0), END, most=2), ([("head", 0, ())], "end"))

    def test_end_is_a_step_that_must_be_done(self):
        self.assertEqual(told(END, most=0), ([], ""))
        self.assertEqual(told(("head", 0), END, most=1), ([("head", 0, ())], ""))

    def test_none(self):
        for step in NEEDS_ROW:
            with self.subTest(step=step):
                self.assertEqual(told(step, END), ([], "none"))
                self.assertEqual(told(step, most=1), ([], "none"))
                self.assertEqual(told(step, most=0), ([], ""))
                self.assertEqual(told(("head", 0), step, END, most=2), ([("head", 0, ())], "none"))
                self.assertEqual(told(("head", 0), step, END, most=1), ([("head", 0, ())], ""))

    def test_none_where_there_are_no_rows_to_take(self):
        for step in NEEDS_ROW:
            self.assertEqual(told(("next", 1), step, END, rows=[]), ([], "none"))

    def test_with_a_row_none_is_not_told(self):
        for step in NEEDS_ROW:
            self.assertEqual(told(("next", 0), step, END)[1], "end")

    def test_other_steps_want_no_row(self):
        self.assertEqual(
            told(("first", 1), ("go", 2), ("begin", 0), ("head", 1), ("foot", 0), END),
            ([("head", 1, ()), ("foot", 0, (), (0, 0))], "end"),
        )

    def test_behind(self):
        self.assertEqual(told(), ([], "behind"))
        self.assertEqual(told(most=1), ([], "behind"))
        self.assertEqual(told(("head", 0)), ([("head", 0, ())], "behind"))
        self.assertEqual(told(("head", 0), most=2), ([("head", 0, ())], "behind"))
        self.assertEqual(told(NEXT), ([], "behind"))

    def test_behind_only_where_one_more_might_be_done(self):
        self.assertEqual(told(most=0), ([], ""))
        self.assertEqual(told(("head", 0), most=1), ([("head", 0, ())], ""))
        self.assertEqual(told(("next", 0), ("row",), most=2), ([("row", 0)], ""))
        self.assertEqual(told(("next", 0), ("row",), most=3), ([("row", 0)], "behind"))

    def test_behind_after_eighty_steps(self):
        plan = (("begin", 0),) * 80
        self.assertEqual(told(*plan, most=80), ([], ""))
        self.assertEqual(told(*plan, most=81), ([], "behind"))


class TestNext(unittest.TestCase):
    def test_rows_in_turn(self):
        plan = (("next", 3), ("row",), ("go", 0), END)
        self.assertEqual(told(*plan), ([("row", 0), ("row", 1), ("row", 2)], "end"))
        self.assertEqual(told(*plan, rows=[]), ([], "end"))

    def test_rows_in_any_order(self):
        plan = (("next", 3), ("row",), ("go", 0), END)
        self.assertEqual(told(*plan, rows=ROWS[::-1]), ([("row", 0), ("row", 1), ("row", 2)], "end"))
        plan = (("next", 4), ("keep",), ("head", 2), ("go", 0), END)
        self.assertEqual(
            told(*plan, rows=[(5, 1, 0), (3, 3, 0), (4, 2, 0)]),
            ([("head", 2, (5, 1)), ("head", 2, (3, 3)), ("head", 2, (4, 2))], "end"),
        )

    def test_what_was_taken_stays_behind_the_last_row(self):
        plan = (("next", 2), ("go", 0), ("row",), ("next", 4), ("row",), END)
        self.assertEqual(told(*plan), ([("row", 2), ("row", 2)], "end"))

    def test_without_rows_none_is_taken(self):
        self.assertEqual(told(("next", 1), ("next", 2), ("row",), rows=[]), ([], "none"))

    def test_it_goes_on_where_there_is_a_row(self):
        self.assertEqual(told(("next", 2), END, ("head", 0), END), ([], "end"))
        self.assertEqual(told(("next", 2), END, ("head", 0), END, rows=[]), ([("head", 0, ())], "end"))

    def test_sixty_rows(self):
        rows = [(number,) for number in range(59, -1, -1)]
        lines, word = done(plain_report(), (("next", 3), ("row",), ("go", 0), END), rows, 5000)
        self.assertEqual((lines, word), ([("row", number) for number in range(60)], "end"))
        self.assertEqual(refused(BadRows, done, plain_report(), (END,), rows + [(1,)], 1).number, 60)


class TestTest(unittest.TestCase):
    def goes(self, number, row):
        lines, word = told(("next", 0), ("test", number, 3), END, ("row",), END, rows=[row])
        self.assertEqual(word, "end")
        return lines == [("row", 0)]

    def test_goes_where_the_test_doesnt_hold(self):
        for number, field, held, not_held in (
            (0, 0, (1,), (0, 2)), (1, 1, (2, 3, 999), (0, 1)), (2, 2, (29, 31), (30,)), (3, 2, (0, 19), (20, 21)),
        ):
            for worth in held + not_held:
                row = [500, 500, 500]
                row[field] = worth
                self.assertEqual(self.goes(number, tuple(row)), worth in not_held, (number, worth))

    def test_the_row_is_the_one_taken_last(self):
        plan = (("next", 4), ("test", 1, 0), ("row",), ("go", 0), END)
        self.assertEqual(told(*plan), ([("row", 1), ("row", 2)], "end"))


class TestSame(unittest.TestCase):
    def goes(self, level, kept, row, keys=(0, 1, 2)):
        report = plain_report(3, keys)
        plan = (("next", 0), ("keep",), ("next", 0), ("same", level, 5), END, ("row",), END)
        lines, word = done(report, plan, [kept, row], 100)
        self.assertEqual(word, "end")
        return lines == [("row", 1)]

    def test_first_so_many_keys(self):
        for row, same in (
            ((1, 2, 3), (1, 2, 3)), ((1, 2, 4), (1, 2)), ((1, 3, 3), (1,)), ((2, 2, 3), ()), ((0, 0, 0), ()),
        ):
            for level in (1, 2, 3):
                self.assertEqual(self.goes(level, (1, 2, 3), row), level in same, (row, level))

    def test_keys_are_in_the_order_of_the_report(self):
        self.assertTrue(self.goes(1, (1, 2, 3), (9, 9, 3), (2, 0)))
        self.assertFalse(self.goes(1, (1, 2, 3), (1, 2, 9), (2, 0)))
        self.assertTrue(self.goes(2, (1, 2, 3), (1, 9, 3), (2, 0)))

    def test_doesnt_go_where_no_keys_are_kept(self):
        for level in (1, 2):
            self.assertEqual(told(("next", 0), ("same", level, 3), END, ("row",), END), ([], "end"))

    def test_the_same_row(self):
        self.assertEqual(
            told(("next", 0), ("keep",), ("same", 2, 4), END, ("row",), END), ([("row", 0)], "end"),
        )


class TestFirstAndGo(unittest.TestCase):
    def test_first_goes_where_no_keys_are_kept(self):
        self.assertEqual(told(("first", 2), END, ("head", 0), END), ([("head", 0, ())], "end"))
        self.assertEqual(told(("next", 0), ("first", 3), END, ("row",), END), ([("row", 0)], "end"))

    def test_first_doesnt_go_where_keys_are_kept(self):
        self.assertEqual(told(("next", 0), ("keep",), ("first", 4), END, ("row",), END), ([], "end"))

    def test_keys_of_a_report_without_any_may_be_kept_too(self):
        plan = (("next", 0), ("keep",), ("first", 4), END, ("row",), END)
        self.assertEqual(done(plain_report(), plan, [(0,)], 10), ([], "end"))

    def test_keys_of_noughts_are_kept_too(self):
        plan = (("next", 0), ("keep",), ("first", 4), END, ("row",), END)
        self.assertEqual(told(*plan, rows=[(0, 0, 0)]), ([], "end"))

    def test_go_goes_ahead_and_back(self):
        self.assertEqual(told(("go", 2), END, ("head", 0), ("go", 1)), ([("head", 0, ())], "end"))
        self.assertEqual(told(("go", 0), most=1), ([], ""))
        self.assertEqual(told(("go", 1), ("head", 0)), ([("head", 0, ())], "behind"))


class TestHead(unittest.TestCase):
    def test_first_so_many_of_the_kept_keys(self):
        plan = (("next", 0), ("keep",), ("next", 0), ("head", 0), ("head", 1), ("head", 2), END)
        self.assertEqual(
            told(*plan, rows=[(7, 8, 9), (1, 2, 3)]),
            ([("head", 0, ()), ("head", 1, (7,)), ("head", 2, (7, 8))], "end"),
        )

    def test_no_keys_kept(self):
        for level in (0, 1, 2):
            self.assertEqual(told(("head", level), END), ([("head", level, ())], "end"))
            self.assertEqual(told(("next", 0), ("head", level), END), ([("head", level, ())], "end"))

    def test_also_where_the_report_has_no_head(self):
        quiet = report_with(heads=(False,) * 3)
        self.assertEqual(told(("head", 2), END, report=quiet), ([("head", 2, ())], "end"))

    def test_keys_kept_last(self):
        plan = (("next", 4), ("keep",), ("head", 1), ("go", 0), ("head", 2), END)
        self.assertEqual(
            told(*plan), ([("head", 1, (1,)), ("head", 1, (1,)), ("head", 1, (2,)), ("head", 2, (2, 2))], "end"),
        )

    def test_keys_of_three_in_the_order_of_the_report(self):
        plan = (("next", 0), ("keep",), ("head", 3), ("head", 2), END)
        self.assertEqual(
            done(plain_report(4, (3, 0, 2)), plan, [(5, 6, 7, 8)], 10),
            ([("head", 3, (8, 5, 7)), ("head", 2, (8, 5))], "end"),
        )


class TestFoot(unittest.TestCase):
    FEET = (((0, 1, 2, 3), None), ((0, 1), None), ((0,), (0, "ge", 2)))

    def told(self, *steps, rows=ROWS):
        return done(report_with(feet=self.FEET, heads=(False,) * 3), steps + (END,), rows, 5000)

    def test_no_keys_kept_and_no_rows_added(self):
        self.assertEqual(self.told(("foot", 0)), ([("foot", 0, (), (0, 0, None, None))], "end"))
        self.assertEqual(self.told(("foot", 1)), ([("foot", 1, (), (0, 0))], "end"))

    def test_a_row_is_added_at_every_level(self):
        plan = (("next", 0), ("add",), ("next", 0), ("add",), ("keep",), ("foot", 0), ("foot", 1), ("foot", 2))
        self.assertEqual(self.told(*plan), ([
            ("foot", 0, (), (2, 30, 10, 20)), ("foot", 1, (1,), (2, 30)), ("foot", 2, (1, 2), (2,)),
        ], "end"))

    def test_begin_at_one_level(self):
        for level in (0, 1):
            plan = (("next", 0), ("add",), ("begin", level), ("next", 0), ("add",), ("foot", 0), ("foot", 1))
            whole = [("foot", 0, (), (2, 30, 10, 20)), ("foot", 1, (), (2, 30))]
            part = [("foot", 0, (), (1, 20, 20, 20)), ("foot", 1, (), (1, 20))]
            lines = [part[at] if at == level else whole[at] for at in (0, 1)]
            self.assertEqual(self.told(*plan), (lines, "end"))

    def test_begin_behind_add(self):
        plan = (("next", 0), ("add",), ("begin", 0), ("foot", 0), ("foot", 1))
        self.assertEqual(
            self.told(*plan), ([("foot", 0, (), (0, 0, None, None)), ("foot", 1, (), (1, 10))], "end"),
        )

    def test_a_foot_leaves_the_rows_added(self):
        plan = (("next", 0), ("add",), ("foot", 1), ("foot", 1), ("next", 0), ("add",), ("foot", 1))
        one = ("foot", 1, (), (1, 10))
        self.assertEqual(self.told(*plan), ([one, one, ("foot", 1, (), (2, 30))], "end"))

    def test_a_row_added_twice_counts_twice(self):
        self.assertEqual(
            self.told(("next", 0), ("add",), ("add",), ("foot", 0)), ([("foot", 0, (), (2, 20, 10, 10))], "end"),
        )

    def test_its_test(self):
        add = ("next", 0), ("add",)
        self.assertEqual(self.told(("foot", 2)), ([], "end"))
        self.assertEqual(self.told(*add, ("foot", 2)), ([], "end"))
        self.assertEqual(self.told(*add, *add, ("foot", 2)), ([("foot", 2, (), (2,))], "end"))

    def test_no_test_of_least_or_most_of_no_rows_holds(self):
        for place in (2, 3):
            for word in ("eq", "ne", "ge", "lt"):
                report = report_with(feet=(((), (place, word, 0)), None, None))
                self.assertEqual(done(report, (("foot", 0), END), [], 5), ([], "end"))

    def test_no_foot_in_the_report(self):
        report = report_with(feet=(None, None, None))
        plan = (("next", 0), ("add",), ("foot", 0), ("foot", 1), ("foot", 2), END)
        self.assertEqual(done(report, plan, ROWS, 50), ([], "end"))

    def test_rows_that_tests_leave_out_may_be_added(self):
        report = report_with(tests=((0, "eq", 999),))
        plan = (("next", 0), ("add",), ("row",), ("foot", 1), END)
        self.assertEqual(done(report, plan, ROWS, 50), ([("row", 0), ("foot", 1, (), (10,))], "end"))

    def test_the_key_is_that_of_the_keys_kept_not_of_the_rows_added(self):
        plan = (("next", 0), ("add",), ("next", 0), ("next", 0), ("keep",), ("foot", 1))
        self.assertEqual(self.told(*plan), ([("foot", 1, (2,), (1, 10))], "end"))


class TestRow(unittest.TestCase):
    def test_also_where_the_report_has_no_detail(self):
        report = report_with(detail=False)
        self.assertEqual(told(("next", 0), ("row",), ("row",), END, report=report), ([("row", 0), ("row", 0)], "end"))


class TestKinds(unittest.TestCase):
    def test_a_tuple_of_a_list_and_a_text(self):
        for plan in ((), (END,), (("row",),), (("go", 0),)):
            answer = done(REPORT, plan, ROWS, 5)
            self.assertIs(answer.__class__, tuple)
            self.assertEqual([thing.__class__ for thing in answer], [list, str])

    def test_lines_are_tuples(self):
        plan = (("next", 0), ("keep",), ("add",), ("head", 2), ("row",), ("foot", 2), END)
        self.assertEqual(
            told(*plan), ([("head", 2, (1, 1)), ("row", 0), ("foot", 2, (1, 1), (1,))], "end"),
        )


if __name__ == "__main__":
    unittest.main()
