"""The plan of a report, and that it tells the report's lines [11]."""

import itertools
import random
import unittest

from breakreports.lines import lines
from breakreports.plans import done, plain
from samples import ALL_SUMS, plain_report, report_with

FORMS = {
    "next": 2, "test": 3, "same": 3, "first": 2, "go": 2, "keep": 1, "add": 1, "begin": 2, "row": 1, "head": 2,
    "foot": 2, "end": 1,
}
WHOLE = ((0, 1, 2, 3), None)
FEET = (None, WHOLE, ((1,), (0, "ge", 2)), ((), None), ((0, 3), (2, "lt", 2)))
FOUR_TESTS = ((2, "ge", 1), (2, "lt", 900), (2, "ne", 4), (0, "ne", 2))
EMPTY_TESTS = ((0, "lt", 0),)


class PlainTest(unittest.TestCase):
    def assert_plan(self, report):
        plan = plain(report)
        self.assertIs(plan.__class__, tuple)
        self.assertLessEqual(len(plan), 80)
        for step in plan:
            self.assertIs(step.__class__, tuple)
            self.assertEqual(len(step), FORMS[step[0]])
            for number in step[1:]:
                self.assertIs(number.__class__, int)
        return plan

    def assert_tells_lines(self, report, rows):
        with self.subTest(report=report, rows=rows):
            self.assertEqual(done(report, self.assert_plan(report), rows, 5000), (lines(report, rows), "end"))


class TestPlain(PlainTest):
    def test_the_largest_report_and_sixty_rows_that_turn_at_every_level(self):
        tests = ((3, "ge", 0), (3, "lt", 999), (3, "ne", 7), (4, "eq", 1))
        sums = (("count", 0), ("sum", 3), ("least", 3), ("most", 3))
        report = (5, (0, 1, 2), tests, sums, (True,) * 4, (WHOLE,) * 4, True)
        self.assert_tells_lines(report, [(number, number, number, number, 1) for number in range(60)])
        self.assert_tells_lines(report, [(1, 1, 1, 5, 1)] * 60)
        self.assert_tells_lines(report, [(1, 1, number, 5, 1) for number in range(60)])
        self.assert_tells_lines(report, [(1, number, 3, 5, number % 2) for number in range(60)])
        self.assert_tells_lines(report, [(number, 2, 3, 5, 1) for number in range(940, 1000)])
        self.assert_tells_lines(report, [(1, 1, 1, 5, 0)] * 60)

    def test_no_row_at_all_and_no_row_that_is_in(self):
        for many in range(4):
            for tests in ((), EMPTY_TESTS):
                for head, foot, detail in itertools.product((True, False), (WHOLE, None), (True, False)):
                    levels = many + 1
                    report = (3, (2, 0, 1)[:many], tests, ALL_SUMS, (head,) * levels, (foot,) * levels, detail)
                    self.assert_tells_lines(report, [])
                    if tests:
                        self.assert_tells_lines(report, [(3, 2, 1), (1, 2, 3)])

    def test_no_keys(self):
        rows = [(3, 2, 1), (1, 2, 3), (3, 2, 1)]
        for tests, head, foot, detail in itertools.product(((), FOUR_TESTS), (True, False), FEET, (True, False)):
            self.assert_tells_lines((3, (), tests, ALL_SUMS, (head,), (foot,), detail), rows)

    def test_heads_feet_and_detail_at_each_level(self):
        rows = sorted(itertools.product((0, 1), (0, 1), (0, 1), (5, 6)))
        for many in (1, 2, 3):
            levels = many + 1
            for heads in itertools.product((True, False), repeat=levels):
                for feet in itertools.product((WHOLE, None), repeat=levels):
                    for detail in (True, False):
                        report = (4, (0, 1, 2)[:many], (), ALL_SUMS, heads, feet, detail)
                        self.assert_tells_lines(report, rows[::3])

    def test_rows_between_that_are_left_out(self):
        report = report_with(tests=((2, "ne", 0),))
        self.assert_tells_lines(report, [
            (9, 9, 0), (1, 1, 5), (7, 7, 0), (1, 1, 6), (0, 0, 0), (1, 2, 5), (5, 5, 0), (2, 2, 5), (0, 0, 0),
        ])

    def test_nothing_to_tell(self):
        quiet = (1, (), (), (), (False,), (None,), False)
        self.assert_tells_lines(quiet, [(1,), (2,)])
        self.assert_tells_lines(plain_report(5, (4, 0)), [(0, 0, 0, 0, 0)])

    def test_asked_again_the_same_is_told(self):
        for report in (report_with(), plain_report()):
            self.assertEqual(plain(report), plain(report))

    def test_any_report(self):
        chance = random.Random(11)
        for turn in range(1500):
            many = chance.randrange(4)
            keys = tuple(chance.sample(range(4), many))
            tests = tuple(
                (chance.randrange(4), chance.choice(("eq", "ge", "lt", "ne", "ne", "ne")), chance.randrange(4))
                for test in range(chance.choice((0, 0, 1, 2, 4)))
            )
            sums = tuple(
                (chance.choice(("count", "least", "most", "sum")), chance.randrange(4)) for told in range(4)
            )
            heads = tuple(chance.random() < 0.5 for level in range(many + 1))
            feet = tuple(chance.choice(FEET) for level in range(many + 1))
            report = (4, keys, tests, sums, heads, feet, chance.random() < 0.5)
            rows = [tuple(chance.randrange(4) for field in range(4)) for row in range(chance.randrange(30))]
            rows.sort(key=lambda row: [row[key] for key in keys])
            self.assert_tells_lines(report, rows)


if __name__ == "__main__":
    unittest.main()
