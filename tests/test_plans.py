"""What a plan is [9], and what is refused as none."""

import unittest

from breakreports.errors import BadPlan, BadReport, BadRows, BadSize
from breakreports.plans import done
from samples import plain_report, refused, report_with

TESTS = ((0, "eq", 1), (1, "ge", 2))
REPORT = report_with(tests=TESTS)
# One step of each form, all allowed in a plan of five steps or more of the report above.
STEPS = (
    ("next", 0), ("test", 1, 0), ("same", 1, 0), ("first", 0), ("go", 0), ("keep",), ("add",), ("begin", 0),
    ("row",), ("head", 0), ("foot", 0), ("end",),
)
# Things that are no number where a step wants one.
NO_NUMBERS = (True, False, None, "", "0", (), (0,), -1, -2)


class PlanTest(unittest.TestCase):
    def assert_refused(self, plan, number, report=REPORT):
        with self.subTest(plan=plan):
            refusal = refused(BadPlan, done, report, plan, [], 0)
            self.assertEqual(refusal.number, number)
            self.assertIs(refusal.number.__class__, int)

    def assert_allowed(self, plan, report=REPORT):
        with self.subTest(plan=plan):
            self.assertEqual(done(report, plan, [], 0), ([], ""))

    def assert_step_refused(self, step, report=REPORT):
        """Put the step first, in the middle and last."""
        good = (("end",),) * 5
        for at in range(5):
            self.assert_refused(good[:at] + (step,) + good[at + 1:], at, report)

    def assert_step_allowed(self, step, report=REPORT):
        good = (("end",),) * 5
        for at in range(5):
            self.assert_allowed(good[:at] + (step,) + good[at + 1:], report)


class TestPlan(PlanTest):
    def test_no_tuple(self):
        for plan in (0, 1, 7, "", "end", True, False, None):
            self.assert_refused(plan, 0)

    def test_no_step_at_all_is_allowed(self):
        self.assert_allowed(())

    def test_steps_that_are_no_tuple(self):
        for step in (0, 1, 5, "", "end", "next", True, False, None):
            self.assert_step_refused(step)

    def test_eighty_are_allowed(self):
        for step in STEPS:
            self.assert_allowed((step,) * 79)
            self.assert_allowed((step,) * 80)

    def test_the_eighty_first_is_refused(self):
        for many in (81, 82, 120):
            for step in STEPS:
                self.assert_refused((step,) * many, 80)
        self.assert_refused((("end",),) * 80 + (None,), 80)

    def test_a_wrong_step_goes_ahead_of_the_eighty_first(self):
        good = (("end",),) * 40
        self.assert_refused(good + (("stop",),) + good, 40)
        self.assert_refused(good + good[:39] + (("stop",), ("end",)), 79)

    def test_the_first_wrong_step_is_told(self):
        self.assert_refused((("end",), ("go", 9), ("stop",), 0), 1)
        self.assert_refused((("end",), ("add",), ("stop",), ("go", 9)), 2)


class TestForms(PlanTest):
    def test_each_form_is_allowed(self):
        for step in STEPS:
            self.assert_step_allowed(step)
        self.assert_allowed(STEPS)

    def test_a_thing_too_few_and_too_many(self):
        for step in STEPS:
            self.assert_step_refused(step[:-1])
            self.assert_step_refused(step + (0,))
            self.assert_step_refused(step + (0, 0))
            self.assert_step_refused(step + ((),))
            self.assert_step_refused(step + step)
            self.assert_step_refused((step,))

    def test_other_words(self):
        for word in ("", "ends", "End", "end ", "en", "goal", "level", "deep", "stop", "rows", "if", "eq", "lines"):
            for more in ((), (0,), (0, 0), (1, 1)):
                self.assert_step_refused((word,) + more)
        for word in (0, 1, True, None, (), ("end",)):
            for more in ((), (0,), (1, 0)):
                self.assert_step_refused((word,) + more)

    def test_words_of_another_form(self):
        for word in ("keep", "add", "row", "end"):
            for more in ((0,), (0, 0)):
                self.assert_step_refused((word,) + more)
        for word in ("next", "first", "go", "begin", "head", "foot"):
            for more in ((), (0, 0)):
                self.assert_step_refused((word,) + more)
        for word in ("test", "same"):
            for more in ((), (1,), (1, 1, 1)):
                self.assert_step_refused((word,) + more)


class TestGoals(PlanTest):
    GOING = (("next",), ("test", 0), ("same", 1), ("first",), ("go",))

    def test_the_first_and_the_last_step_are_allowed(self):
        for going in self.GOING:
            for goal in range(5):
                self.assert_step_allowed(going + (goal,))
            self.assert_allowed((going + (0,),))

    def test_others(self):
        for going in self.GOING:
            for goal in NO_NUMBERS + (5, 6, 80, 1000):
                self.assert_step_refused(going + (goal,))
            self.assert_refused((going + (1,),), 0)

    def test_the_last_of_eighty(self):
        for going in self.GOING:
            self.assert_allowed((going + (79,),) * 80)
            self.assert_refused((going + (80,),) * 80, 0)

    def test_of_as_many_as_are_handed_in(self):
        for going in self.GOING:
            self.assert_refused((going + (80,),) * 81, 80)
            self.assert_refused((going + (99,),) * 100, 80)
            self.assert_refused((going + (100,),) * 100, 0)


class TestNumbers(PlanTest):
    def test_numbers_of_tests(self):
        for many in range(5):
            report = report_with(tests=((0, "eq", 1),) * many)
            for number in range(many):
                self.assert_step_allowed(("test", number, 4), report)
            for number in NO_NUMBERS + (many, many + 1, 999):
                self.assert_step_refused(("test", number, 4), report)

    def test_levels(self):
        for many in range(4):
            report = plain_report(4, (3, 1, 0)[:many])
            for word in ("begin", "head", "foot"):
                for level in range(many + 1):
                    self.assert_step_allowed((word, level), report)
                for level in NO_NUMBERS + (many + 1, many + 2, 999):
                    self.assert_step_refused((word, level), report)

    def test_levels_of_same_are_from_one_on(self):
        for many in range(4):
            report = plain_report(4, (3, 1, 0)[:many])
            for level in range(1, many + 1):
                self.assert_step_allowed(("same", level, 4), report)
            for level in NO_NUMBERS + (0, many + 1, many + 2):
                self.assert_step_refused(("same", level, 4), report)

    def test_goal_and_number_are_not_taken_for_each_other(self):
        report = report_with(tests=TESTS)
        self.assert_step_refused(("test", 4, 1), report)
        self.assert_step_refused(("same", 4, 1), report)


class TestWhichGoesFirst(unittest.TestCase):
    def test_each_in_its_turn(self):
        wrong_plan, wrong_rows = (("end",), ("go", 2)), [(1, 1, 1), None]
        for most in (0, -1, 5001):
            for rows in ([], wrong_rows, [(1, 1, 1)] * 61):
                for plan in ((), wrong_plan, 0):
                    self.assertEqual(refused(BadReport, done, report_with(feet=()), plan, rows, most).part, "feet")
                self.assertEqual(refused(BadPlan, done, REPORT, wrong_plan, rows, most).number, 1)
                self.assertEqual(refused(BadPlan, done, REPORT, (("end",),) * 81, rows, most).number, 80)
            self.assertEqual(refused(BadRows, done, REPORT, (), wrong_rows, most).number, 1)
            self.assertEqual(refused(BadRows, done, REPORT, (), [(1, 1, 1)] * 61, most).number, 60)
        refused(BadSize, done, REPORT, (), [(1, 1, 1), (0, 0, 0)], 5001)


if __name__ == "__main__":
    unittest.main()
