"""The lines of a report [6]."""

import unittest

from breakreports.lines import lines
from samples import ALL_SUMS, report_with

SUMS = (("count", 0), ("sum", 1), ("least", 1), ("most", 1))


def one_level(feet, sums=SUMS, heads=(False,), detail=False, tests=()):
    return (2, (), tests, sums, heads, feet, detail)


class TestNoKeys(unittest.TestCase):
    ROWS = [(1, 7), (0, 3), (2, 5)]

    def test_all_rows_are_one_group(self):
        report = one_level((((0, 1, 2, 3), None),), heads=(True,), detail=True)
        self.assertEqual(lines(report, self.ROWS), [
            ("head", 0, ()),
            ("row", 0),
            ("row", 1),
            ("row", 2),
            ("foot", 0, (), (3, 15, 3, 7)),
        ])

    def test_rows_alone(self):
        self.assertEqual(lines(one_level((None,), detail=True), self.ROWS), [("row", 0), ("row", 1), ("row", 2)])

    def test_head_alone(self):
        self.assertEqual(lines(one_level((None,), heads=(True,)), self.ROWS), [("head", 0, ())])

    def test_nothing_at_all(self):
        self.assertEqual(lines(one_level((None,)), self.ROWS), [])

    def test_rows_that_are_left_out_keep_their_numbers(self):
        report = one_level((((0, 1), None),), detail=True, tests=((1, "ge", 5),))
        self.assertEqual(lines(report, self.ROWS), [("row", 0), ("row", 2), ("foot", 0, (), (2, 12))])


class TestFeet(unittest.TestCase):
    ROWS = [(1, 7), (0, 3), (2, 5)]

    def foot(self, foot, rows, sums=SUMS):
        return lines(one_level((foot,), sums), rows)

    def test_a_foot_tells_its_own_sums_only(self):
        self.assertEqual(self.foot(((), None), self.ROWS), [("foot", 0, (), ())])
        self.assertEqual(self.foot(((1,), None), self.ROWS), [("foot", 0, (), (15,))])
        self.assertEqual(self.foot(((0, 3), None), self.ROWS), [("foot", 0, (), (3, 7))])
        self.assertEqual(self.foot(((2, 3), None), self.ROWS), [("foot", 0, (), (3, 7))])

    def test_sums_look_at_their_own_field(self):
        sums = (("sum", 0), ("least", 0), ("most", 0), ("count", 1))
        self.assertEqual(self.foot(((0, 1, 2, 3), None), self.ROWS, sums), [("foot", 0, (), (3, 0, 2, 3))])

    def test_count_is_of_rows_not_of_numbers(self):
        self.assertEqual(self.foot(((0,), None), [(0, 0), (0, 0)]), [("foot", 0, (), (2,))])

    def test_its_test_below_at_and_above_the_worth(self):
        held = {"eq": (15,), "ne": (14, 16), "ge": (14, 15), "lt": (16,)}
        for word in held:
            for number in (14, 15, 16):
                told = [("foot", 0, (), (3,))] if number in held[word] else []
                self.assertEqual(self.foot(((0,), (1, word, number)), self.ROWS), told, (word, number))

    def test_its_test_may_be_of_each_sum(self):
        for place, worth in enumerate((3, 15, 3, 7)):
            self.assertEqual(self.foot(((), (place, "eq", worth)), self.ROWS), [("foot", 0, (), ())])
            self.assertEqual(self.foot(((), (place, "ne", worth)), self.ROWS), [])

    def test_of_no_row(self):
        self.assertEqual(self.foot(((0, 1, 2, 3), None), []), [("foot", 0, (), (0, 0, None, None))])

    def test_no_test_of_least_or_most_of_no_row_holds(self):
        for place in (2, 3):
            for word in ("eq", "ne", "ge", "lt"):
                for number in (0, 1, 999):
                    self.assertEqual(self.foot(((0,), (place, word, number)), []), [])

    def test_tests_of_count_and_sum_of_no_row_may_hold(self):
        for place in (0, 1):
            self.assertEqual(self.foot(((0,), (place, "eq", 0)), []), [("foot", 0, (), (0,))])
            self.assertEqual(self.foot(((0,), (place, "lt", 1)), []), [("foot", 0, (), (0,))])
            self.assertEqual(self.foot(((0,), (place, "ge", 0)), []), [("foot", 0, (), (0,))])
            self.assertEqual(self.foot(((0,), (place, "ne", 0)), []), [])

    def test_zero_is_a_least_like_others(self):
        self.assertEqual(self.foot(((2, 3), (2, "eq", 0)), [(0, 0)]), [("foot", 0, (), (0, 0))])

    def test_a_sum_may_be_greater_than_any_number(self):
        self.assertEqual(self.foot(((1,), (1, "ge", 999)), [(0, 999)] * 60), [("foot", 0, (), (59940,))])


class TestNoRowIn(unittest.TestCase):
    def test_level_0_has_its_one_group(self):
        told = [("head", 0, ()), ("foot", 0, (), (0, 0))]
        self.assertEqual(lines(report_with(), []), told)
        self.assertEqual(lines(report_with(tests=((0, "lt", 0),)), [(1, 2, 3), (0, 0, 0)]), told)

    def test_nothing_is_told_of_deeper_levels(self):
        report = report_with(heads=(False, True, True), feet=(None, ((0,), None), ((0,), None)))
        self.assertEqual(lines(report, []), [])


class TestOneKey(unittest.TestCase):
    def test_groups_in_turn(self):
        report = (2, (0,), (), SUMS, (True, True), (((0, 1), None), ((0, 1, 2, 3), None)), True)
        self.assertEqual(lines(report, [(4, 1), (4, 2), (6, 9)]), [
            ("head", 0, ()),
            ("head", 1, (4,)),
            ("row", 0),
            ("row", 1),
            ("foot", 1, (4,), (2, 3, 1, 2)),
            ("head", 1, (6,)),
            ("row", 2),
            ("foot", 1, (6,), (1, 9, 9, 9)),
            ("foot", 0, (), (3, 12)),
        ])

    def test_a_foot_may_be_told_of_some_groups_only(self):
        report = (2, (0,), (), SUMS, (False, False), (None, ((0,), (0, "ge", 2))), False)
        rows = [(1, 0), (2, 0), (2, 0), (3, 0), (4, 0), (4, 0), (4, 0)]
        self.assertEqual(lines(report, rows), [("foot", 1, (2,), (2,)), ("foot", 1, (4,), (3,))])

    def test_a_group_goes_on_behind_rows_that_are_left_out(self):
        report = (2, (0,), ((1, "ne", 0),), SUMS, (False, True), (None, ((0,), None)), True)
        rows = [(9, 0), (1, 5), (7, 0), (1, 6), (2, 0), (3, 1), (0, 0)]
        self.assertEqual(lines(report, rows), [
            ("head", 1, (1,)),
            ("row", 1),
            ("row", 3),
            ("foot", 1, (1,), (2,)),
            ("head", 1, (3,)),
            ("row", 5),
            ("foot", 1, (3,), (1,)),
        ])

    def test_the_key_may_be_any_field(self):
        report = (3, (2,), (), (), (False, True), (None, None), True)
        self.assertEqual(lines(report, [(9, 9, 1), (5, 5, 2)]), [
            ("head", 1, (1,)), ("row", 0), ("head", 1, (2,)), ("row", 1),
        ])


class TestTwoKeys(unittest.TestCase):
    ROWS = [(1, 1, 10), (1, 1, 20), (1, 2, 30), (2, 2, 40), (2, 3, 50)]

    def test_groups_within_groups(self):
        self.assertEqual(lines(report_with(), self.ROWS), [
            ("head", 0, ()),
            ("head", 1, (1,)),
            ("head", 2, (1, 1)),
            ("row", 0),
            ("row", 1),
            ("foot", 2, (1, 1), (2,)),
            ("head", 2, (1, 2)),
            ("row", 2),
            ("foot", 2, (1, 2), (1,)),
            ("foot", 1, (1,), (60,)),
            ("head", 1, (2,)),
            ("head", 2, (2, 2)),
            ("row", 3),
            ("foot", 2, (2, 2), (1,)),
            ("head", 2, (2, 3)),
            ("row", 4),
            ("foot", 2, (2, 3), (1,)),
            ("foot", 1, (2,), (90,)),
            ("foot", 0, (), (5, 150)),
        ])

    def test_without_detail(self):
        self.assertEqual(
            lines(report_with(detail=False), self.ROWS),
            [line for line in lines(report_with(), self.ROWS) if line[0] != "row"],
        )

    def test_heads_at_some_levels_only(self):
        whole = lines(report_with(), self.ROWS)
        for on in range(8):
            heads = (bool(on & 1), bool(on & 2), bool(on & 4))
            told = [line for line in whole if line[0] != "head" or heads[line[1]]]
            self.assertEqual(lines(report_with(heads=heads), self.ROWS), told)

    def test_feet_at_some_levels_only(self):
        whole = lines(report_with(), self.ROWS)
        for on in range(8):
            kept = (bool(on & 1), bool(on & 2), bool(on & 4))
            feet = tuple(foot if keep else None for foot, keep in zip(report_with()[5], kept))
            told = [line for line in whole if line[0] != "foot" or kept[line[1]]]
            self.assertEqual(lines(report_with(feet=feet), self.ROWS), told)

    def test_keys_in_the_order_of_the_report_not_of_the_fields(self):
        report = report_with(keys=(2, 0), heads=(False, False, True), feet=(None, None, None))
        self.assertEqual(lines(report, [(8, 0, 1), (9, 0, 1), (3, 0, 2)]), [
            ("head", 2, (1, 8)), ("row", 0), ("head", 2, (1, 9)), ("row", 1), ("head", 2, (2, 3)), ("row", 2),
        ])

    def test_the_last_key_stays_like_where_the_first_one_turns(self):
        report = report_with(heads=(False, False, True), feet=(None, None, None), detail=False)
        self.assertEqual(lines(report, [(1, 5, 0), (2, 5, 0)]), [("head", 2, (1, 5)), ("head", 2, (2, 5))])


class TestThreeKeys(unittest.TestCase):
    REPORT = (
        4, (0, 1, 2), (), (("count", 0), ("sum", 3)), (True, True, True, True),
        (((0,), None), ((1,), None), ((0, 1), None), ((), None)), True,
    )

    def turn(self, row):
        """The lines between the one row of the first group and the row behind the turn."""
        told = lines(self.REPORT, [(1, 1, 1, 5), row])
        return told[told.index(("row", 0)) + 1:told.index(("row", 1))]

    def test_no_turn(self):
        self.assertEqual(self.turn((1, 1, 1, 6)), [])

    def test_a_turn_of_the_last_key_alone(self):
        self.assertEqual(self.turn((1, 1, 2, 6)), [("foot", 3, (1, 1, 1), ()), ("head", 3, (1, 1, 2))])

    def test_a_turn_of_the_middle_key_alone(self):
        self.assertEqual(self.turn((1, 2, 1, 6)), [
            ("foot", 3, (1, 1, 1), ()),
            ("foot", 2, (1, 1), (1, 5)),
            ("head", 2, (1, 2)),
            ("head", 3, (1, 2, 1)),
        ])

    def test_a_turn_of_the_first_key_alone(self):
        self.assertEqual(self.turn((2, 1, 1, 6)), [
            ("foot", 3, (1, 1, 1), ()),
            ("foot", 2, (1, 1), (1, 5)),
            ("foot", 1, (1,), (5,)),
            ("head", 1, (2,)),
            ("head", 2, (2, 1)),
            ("head", 3, (2, 1, 1)),
        ])

    def test_a_turn_of_all_keys(self):
        self.assertEqual(self.turn((3, 4, 5, 6)), [
            ("foot", 3, (1, 1, 1), ()),
            ("foot", 2, (1, 1), (1, 5)),
            ("foot", 1, (1,), (5,)),
            ("head", 1, (3,)),
            ("head", 2, (3, 4)),
            ("head", 3, (3, 4, 5)),
        ])

    def test_the_whole(self):
        self.assertEqual(lines(self.REPORT, [(1, 1, 1, 5), (1, 1, 1, 6), (1, 2, 0, 7)]), [
            ("head", 0, ()),
            ("head", 1, (1,)),
            ("head", 2, (1, 1)),
            ("head", 3, (1, 1, 1)),
            ("row", 0),
            ("row", 1),
            ("foot", 3, (1, 1, 1), ()),
            ("foot", 2, (1, 1), (2, 11)),
            ("head", 2, (1, 2)),
            ("head", 3, (1, 2, 0)),
            ("row", 2),
            ("foot", 3, (1, 2, 0), ()),
            ("foot", 2, (1, 2), (1, 7)),
            ("foot", 1, (1,), (18,)),
            ("foot", 0, (), (3,)),
        ])


class TestKinds(unittest.TestCase):
    def test_a_list_of_tuples(self):
        told = lines(report_with(sums=ALL_SUMS), [(1, 2, 3)])
        self.assertIs(told.__class__, list)
        for line in told:
            self.assertIs(line.__class__, tuple)
            for thing in line[2:]:
                self.assertIs(thing.__class__, tuple)


if __name__ == "__main__":
    unittest.main()
