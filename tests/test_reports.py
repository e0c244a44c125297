"""What a report is [2], and what is refused as none [3]."""

import unittest

from breakreports.errors import BadReport
from breakreports.pages import paged
from breakreports.plans import done
from samples import ALL_SUMS, NUMBERS, OF_REPORTS, OTHERS, TRUTHS, plain_report, refused, report_with

NO_FEET = (None, None, None)
NOT_TUPLES = NUMBERS + TRUTHS + ("", "abc", None)


class ReportTest(unittest.TestCase):
    def assert_refused(self, report, part, number):
        for ask in OF_REPORTS:
            with self.subTest(ask=ask.__name__, report=report):
                refusal = refused(BadReport, ask, report, [])
                self.assertEqual((refusal.part, refusal.number), (part, number))
                self.assertIs(refusal.number.__class__, int)

    def assert_allowed(self, report):
        for ask in OF_REPORTS:
            with self.subTest(ask=ask.__name__, report=report):
                self.assertIsNotNone(ask(report, []))

    def assert_each_place_refused(self, part, good, wrong, **changes):
        """Put each wrong thing first, in the middle and last into a part."""
        for thing in wrong:
            for at in range(len(good)):
                things = good[:at] + (thing,) + good[at + 1:]
                self.assert_refused(report_with(**{**changes, part: things}), part, at)


class TestWholeReport(ReportTest):
    def test_a_report_is_a_tuple_of_seven(self):
        good = report_with()
        for report in NOT_TUPLES + ((), good[:1], good[:6], good + (True,), (good,)):
            self.assert_refused(report, "report", 0)

    def test_the_sample_is_allowed(self):
        self.assert_allowed(report_with())


class TestFields(ReportTest):
    def test_others_are_refused(self):
        for fields in (-1, 0, 6, 7, 1000) + TRUTHS + OTHERS:
            self.assert_refused(report_with(fields=fields), "fields", 0)
            self.assert_refused((fields,) + plain_report()[1:], "fields", 0)

    def test_one_to_five_are_allowed(self):
        for fields in (1, 2, 3, 4, 5):
            self.assert_allowed(plain_report(fields))


class TestKeys(ReportTest):
    def test_no_tuple_is_refused(self):
        for keys in NOT_TUPLES:
            self.assert_refused(report_with(keys=keys), "keys", 0)

    def test_things_that_are_no_field_are_refused(self):
        wrong = (-1, 5, 6, 999) + TRUTHS + OTHERS
        self.assert_each_place_refused("keys", (1, 2, 3), wrong, fields=5)

    def test_a_key_is_less_than_the_fields(self):
        for fields in (1, 2, 3, 4):
            self.assert_refused(plain_report(fields, (fields,)), "keys", 0)
            self.assert_allowed(plain_report(fields, (fields - 1,)))

    def test_like_keys_are_refused_at_the_later_one(self):
        self.assert_refused(report_with(keys=(1, 1)), "keys", 1)
        self.assert_refused(report_with(keys=(1, 1, 1)), "keys", 1)
        self.assert_refused(report_with(keys=(1, 0, 1)), "keys", 2)
        self.assert_refused(report_with(keys=(1, 0, 0)), "keys", 2)

    def test_one_too_many_is_refused(self):
        for keys in ((0, 1, 2, 3), (0, 1, 2, 3, 4), (0, 1, 2, "x"), (0, 1, 2, 0, 9)):
            self.assert_refused(report_with(fields=5, keys=keys), "keys", 3)

    def test_the_first_wrong_one_goes_ahead_of_one_too_many(self):
        self.assert_refused(report_with(fields=5, keys=(0, 1, 9, 3, 4)), "keys", 2)

    def test_edges_are_allowed(self):
        for keys in ((), (0,), (4,), (4, 0), (0, 1, 2), (4, 3, 2), (2, 4, 0)):
            self.assert_allowed(plain_report(5, keys))


class TestTests(ReportTest):
    def test_no_tuple_is_refused(self):
        for tests in NOT_TUPLES:
            self.assert_refused(report_with(tests=tests), "tests", 0)

    def test_things_that_are_no_test_are_refused(self):
        good = ((0, "eq", 0), (1, "ne", 999), (2, "ge", 5), (2, "lt", 5))
        wrong = NUMBERS + TRUTHS + OTHERS + (
            (0, "eq"), (0, "eq", 1, 1), (0, 1, "eq"), ("eq", 0, 1),
        )
        self.assert_each_place_refused("tests", good, wrong)

    def test_each_place_of_a_test_is_looked_at(self):
        for field in (-1, 3, 4) + TRUTHS + OTHERS:
            self.assert_refused(report_with(tests=((field, "eq", 1),)), "tests", 0)
        for word in ("", "e", "eq ", "EQ", "gt", "le", "egq", ("eq",), 0, 1, True, False, None):
            self.assert_refused(report_with(tests=((0, word, 1),)), "tests", 0)
        for number in (-1, 1000, 1001) + TRUTHS + OTHERS:
            self.assert_refused(report_with(tests=((0, "eq", number),)), "tests", 0)

    def test_one_too_many_is_refused(self):
        good = ((0, "eq", 0),) * 4
        self.assert_refused(report_with(tests=good + good[:1]), "tests", 4)
        self.assert_refused(report_with(tests=good + good), "tests", 4)
        self.assert_refused(report_with(tests=good + (None,)), "tests", 4)

    def test_edges_are_allowed(self):
        for word in ("eq", "ge", "lt", "ne"):
            for number in (0, 1, 999):
                for field in (0, 1, 2):
                    self.assert_allowed(report_with(tests=((field, word, number),)))
        self.assert_allowed(report_with(tests=((0, "eq", 1), (0, "ne", 1), (0, "eq", 1), (2, "lt", 0))))


class TestSums(ReportTest):
    def test_no_tuple_is_refused(self):
        for sums in NOT_TUPLES:
            self.assert_refused(report_with(sums=sums), "sums", 0)

    def test_things_that_are_no_sum_are_refused(self):
        wrong = NUMBERS + TRUTHS + OTHERS + (("count",), ("count", 0, 0), (0, "count"), ("sum", "sum"))
        self.assert_each_place_refused("sums", ALL_SUMS, wrong)

    def test_each_place_of_a_sum_is_looked_at(self):
        for kind in ("", "Count", "counts", "min", "eq", ("sum",), 0, 1, True, False, None):
            self.assert_refused(report_with(sums=((kind, 0),)), "sums", 0)
        for kind in ("count", "least", "most", "sum"):
            for field in (-1, 3, 4) + TRUTHS + OTHERS:
                self.assert_refused(report_with(sums=((kind, field),)), "sums", 0)

    def test_one_too_many_is_refused(self):
        self.assert_refused(report_with(sums=ALL_SUMS + ALL_SUMS[:1]), "sums", 4)
        self.assert_refused(report_with(sums=ALL_SUMS + ALL_SUMS), "sums", 4)
        self.assert_refused(report_with(sums=ALL_SUMS + (0,)), "sums", 4)

    def test_edges_are_allowed(self):
        self.assert_allowed(report_with(sums=(), feet=NO_FEET))
        for kind in ("count", "least", "most", "sum"):
            for field in (0, 1, 2):
                self.assert_allowed(report_with(sums=((kind, field),), feet=NO_FEET))
                self.assert_allowed(report_with(sums=((kind, field),) * 4))


class TestHeads(ReportTest):
    def test_no_tuple_is_refused(self):
        for heads in NOT_TUPLES:
            self.assert_refused(report_with(heads=heads), "heads", 0)

    def test_things_that_are_not_true_or_false_are_refused(self):
        self.assert_each_place_refused("heads", (True, False, True), NUMBERS + OTHERS + ((True,), "on"))

    def test_one_too_many_is_refused(self):
        self.assert_refused(report_with(heads=(True,) * 4), "heads", 3)
        self.assert_refused(report_with(heads=(True,) * 5), "heads", 3)
        self.assert_refused(report_with(heads=(True, True, True, None)), "heads", 3)
        self.assert_refused(report_with(heads=(True, 1, True, True)), "heads", 1)
        self.assert_refused(report_with(keys=(), heads=(True, True)), "heads", 1)

    def test_too_few_are_refused_with_how_many_there_are(self):
        for many in (0, 1, 2):
            self.assert_refused(report_with(heads=(False,) * many), "heads", many)

    def test_true_and_false_are_allowed(self):
        for heads in ((True, False, False), (False, True, False), (False, False, True), (False,) * 3):
            self.assert_allowed(report_with(heads=heads))


class TestFeet(ReportTest):
    def test_no_tuple_is_refused(self):
        for feet in NUMBERS + TRUTHS + ("", "abc", None):
            self.assert_refused(report_with(feet=feet), "feet", 0)

    def test_things_that_are_no_foot_are_refused(self):
        good = (((0, 1), None), None, ((), (3, "ge", 9)))
        wrong = NUMBERS + TRUTHS + ("", "eq", (), (1,), ((),), ((0,),), ((0,), None, None), (None, None))
        self.assert_each_place_refused("feet", good, wrong)

    def test_its_sums_are_a_rising_tuple_of_unlike_numbers_of_sums(self):
        for numbers in NOT_TUPLES + ((-1,), (4,), (0, 4), (0, 0), (1, 0), (0, 2, 1), (0, 1, 1), (0, 1, 2, 3, 4)):
            self.assert_refused(report_with(feet=((numbers, None), None, None)), "feet", 0)
        for thing in TRUTHS + OTHERS:
            self.assert_refused(report_with(feet=(None, ((thing,), None), None)), "feet", 1)
            self.assert_refused(report_with(feet=(None, ((0, thing), None), None)), "feet", 1)

    def test_its_test_is_of_a_sum(self):
        for test in NUMBERS + TRUTHS + OTHERS[:-1] + ((0, "eq"), (0, "eq", 1, 1), ("eq", 0, 1)):
            self.assert_refused(report_with(feet=(None, None, ((0,), test))), "feet", 2)
        for number in (-1, 4, 5) + TRUTHS + OTHERS:
            self.assert_refused(report_with(feet=(None, None, ((0,), (number, "eq", 1)))), "feet", 2)
        for word in ("", "gt", "count", 0, True, None, ("eq",)):
            self.assert_refused(report_with(feet=(None, None, ((0,), (0, word, 1)))), "feet", 2)
        for number in (-1, 1000) + TRUTHS + OTHERS:
            self.assert_refused(report_with(feet=(None, None, ((0,), (0, "eq", number)))), "feet", 2)

    def test_a_sum_is_less_than_how_many_there_are(self):
        for many in (0, 1, 2, 3):
            sums = ALL_SUMS[:many]
            self.assert_refused(report_with(sums=sums, feet=(None, ((many,), None), None)), "feet", 1)
            self.assert_refused(report_with(sums=sums, feet=(None, ((), (many, "eq", 1)), None)), "feet", 1)
            self.assert_allowed(report_with(sums=sums, feet=((tuple(range(many)), None), None, None)))

    def test_one_too_many_is_refused(self):
        self.assert_refused(report_with(feet=(None,) * 4), "feet", 3)
        self.assert_refused(report_with(feet=(None,) * 5), "feet", 3)
        self.assert_refused(report_with(feet=(None, None, None, 1)), "feet", 3)
        self.assert_refused(report_with(feet=(None, 1, None, None)), "feet", 1)
        self.assert_refused(report_with(keys=(), heads=(True,), feet=(None, None)), "feet", 1)

    def test_too_few_are_refused_with_how_many_there_are(self):
        for many in (0, 1, 2):
            self.assert_refused(report_with(feet=NO_FEET[:many]), "feet", many)

    def test_edges_are_allowed(self):
        self.assert_allowed(report_with(feet=NO_FEET))
        self.assert_allowed(report_with(feet=(((), None), ((0, 1, 2, 3), None), ((3,), None))))
        self.assert_allowed(report_with(sums=(), feet=(((), None),) * 3))
        for word in ("eq", "ge", "lt", "ne"):
            for number in (0, 999):
                for place in (0, 3):
                    self.assert_allowed(report_with(feet=(((1, 2), (place, word, number)),) * 3))


class TestDetail(ReportTest):
    def test_others_are_refused(self):
        for detail in NUMBERS + OTHERS + ("on",):
            self.assert_refused(report_with(detail=detail), "detail", 0)

    def test_true_and_false_are_allowed(self):
        for detail in TRUTHS:
            self.assert_allowed(report_with(detail=detail))


class TestWhichGoesFirst(ReportTest):
    def test_the_part_that_is_ahead_is_told(self):
        in_turn = (
            ("fields", 0, 6),
            ("keys", 1, (0, 0)),
            ("tests", 1, ((0, "eq", 1), (0, "gt", 1))),
            ("sums", 2, (("count", 0), ("sum", 0), ("sum", 3))),
            ("heads", 1, (True, None, True)),
            ("feet", 2, (None, None, 0)),
            ("heads", 2, (True, True)),
            ("feet", 1, (None,)),
            ("detail", 0, 1),
        )
        for at, (part, number, worth) in enumerate(in_turn):
            for later, other_number, other in in_turn[at + 1:]:
                if part != later:
                    self.assert_refused(report_with(**{part: worth, later: other}), part, number)

    def test_all_parts_wrong_but_the_first_few(self):
        wrong = (0, None, "x", 1, "y", True, 5)
        parts = ("fields", "keys", "tests", "sums", "heads", "feet", "detail")
        good = report_with()
        for at, part in enumerate(parts):
            self.assert_refused(good[:at] + wrong[at:], part, 0)
        self.assert_refused(wrong + (0,), "report", 0)

    def test_a_wrong_foot_goes_ahead_of_too_few_heads(self):
        self.assert_refused(report_with(heads=(True,), feet=(None, None, 0)), "feet", 2)
        self.assert_refused(report_with(heads=(), feet=(None,) * 4), "feet", 3)
        self.assert_refused(report_with(heads=(), feet=None), "feet", 0)

    def test_too_few_heads_go_ahead_of_too_few_feet(self):
        self.assert_refused(report_with(heads=(True,), feet=(None, None)), "heads", 1)
        self.assert_refused(report_with(heads=(True, True), feet=(None,)), "heads", 2)

    def test_a_wrong_head_goes_ahead_of_too_few_of_them(self):
        self.assert_refused(report_with(heads=(True, 1)), "heads", 1)
        self.assert_refused(report_with(feet=(1,)), "feet", 0)

    def test_a_wrong_report_goes_ahead_of_wrong_rows(self):
        for report, part in ((0, "report"), (report_with(detail=0), "detail"), (report_with(fields=0), "fields")):
            for rows in ([None], [(1, 2)], [(0, 0, 0)] * 61, [(1, 1, 1), (0, 0, 0)]):
                for ask in OF_REPORTS:
                    self.assertEqual(refused(BadReport, ask, report, rows).part, part)

    def test_a_wrong_report_goes_ahead_of_all_that_is_handed_in_behind_it(self):
        for report, part in ((None, "report"), (report_with(sums=0), "sums"), (report_with(heads=()), "heads")):
            for rows in ([], [None], [(1, 1, 1), (0, 0, 0)]):
                for size in (0, 16, 61):
                    for again in ((), (9,)):
                        self.assertEqual(refused(BadReport, paged, report, rows, size, again).part, part)
                for plan in (0, (), (("stop",),), (("end",),) * 81):
                    for most in (-1, 0, 5001):
                        self.assertEqual(refused(BadReport, done, report, plan, rows, most).part, part)


if __name__ == "__main__":
    unittest.main()
