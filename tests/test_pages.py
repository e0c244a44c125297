"""Pages: blocks of lines that stand together, and heads told anew [8], with the refusals of paged."""

import itertools
import random
import unittest

from breakreports.errors import BadAgain, BadOrder, BadReport, BadRows, BadSize
from breakreports.lines import lines
from breakreports.pages import paged
from samples import ALL_SUMS, plain_report, refused, report_with

COUNT = ((0,), None)


def rows_report(head=False, foot=False):
    """A report without keys that tells rows."""
    return (1, (), (), (("count", 0),), (head,), (COUNT if foot else None,), True)


def numbered(many):
    return [(number,) for number in range(many)]


def told_rows(least, beyond):
    return [("row", number) for number in range(least, beyond)]


def keyed_report(heads, feet, detail, fields=2, keys=(0,)):
    """A report whose levels have a head, or a foot with a count, as told."""
    return (fields, keys, (), (("count", 0),), heads, tuple(COUNT if foot else None for foot in feet), detail)


class TestRefusals(unittest.TestCase):
    def test_sizes(self):
        for size in (-1, -16, 0, 1, 14, 15, 61, 62, 1000, True, False):
            for rows in ([], [(1, 1, 1)]):
                refused(BadSize, paged, report_with(), rows, size, ())
        for size in range(16, 61):
            self.assertEqual(len(paged(report_with(), [(1, 1, 1)], size, ())), 1)

    def test_levels(self):
        wrong = (
            (-1,), (3,), (4,), (0, 3), (-1, 0), (0, 0), (1, 1), (1, 0), (2, 1), (0, 2, 1), (1, 2, 2), (0, 1, 2, 3),
            (0, 1, 2, 2), (True,), (False,), (0, True), (0, 1, 2, -1),
        )
        for again in wrong:
            for rows in ([], [(1, 1, 1)]):
                refused(BadAgain, paged, report_with(), rows, 16, again)
        for many in range(4):
            for again in itertools.combinations((0, 1, 2), many):
                self.assertEqual(len(paged(report_with(), [(1, 1, 1)], 16, again)), 1)

    def test_levels_are_those_of_the_report(self):
        for many in range(4):
            report = plain_report(3, (0, 1, 2)[:many])
            self.assertEqual(paged(report, [], 16, tuple(range(many + 1))), [])
            refused(BadAgain, paged, report, [], 16, (many + 1,))

    def test_levels_without_heads_are_allowed(self):
        report = report_with(heads=(False,) * 3)
        self.assertEqual(paged(report, [], 16, (0, 1, 2)), [[("page", 1), ("foot", 0, (), (0, 0))]])

    def test_each_in_its_turn(self):
        bad_rows, fallen = [(2, 1, 1), (1, 1, 1), None], [(1, 1, 1), (2, 1, 1), (1, 1, 1)]
        for again in ((), (5,)):
            for size in (16, 15):
                for rows in ([], bad_rows, fallen):
                    told = refused(BadReport, paged, report_with(detail=None), rows, size, again)
                    self.assertEqual((told.part, told.number), ("detail", 0))
                self.assertEqual(refused(BadRows, paged, report_with(), bad_rows, size, again).number, 2)
                self.assertEqual(refused(BadRows, paged, report_with(), [(1, 1, 1)] * 61, size, again).number, 60)
                self.assertEqual(refused(BadOrder, paged, report_with(), fallen, size, again).number, 2)
            refused(BadSize, paged, report_with(), [], 61, again)
        refused(BadAgain, paged, report_with(), [], 60, (5,))


class TestFullPages(unittest.TestCase):
    def test_no_line(self):
        self.assertEqual(paged(rows_report(), [], 16, ()), [])
        self.assertEqual(paged(rows_report(), [], 60, (0,)), [])
        self.assertEqual(paged(keyed_report((True, True), (1, 1), True), [], 16, (0, 1)), [
            [("page", 1), ("head", 0, ()), ("foot", 0, (), (0,))],
        ])

    def test_just_full_and_one_line_more(self):
        for size in (16, 17, 33, 60):
            full = size - 1
            self.assertEqual(paged(rows_report(), numbered(full), size, ()), [[("page", 1)] + told_rows(0, full)])
            self.assertEqual(paged(rows_report(), numbered(full + 1), size, ()), [
                [("page", 1)] + told_rows(0, full),
                [("page", 2), ("row", full)],
            ])

    def test_pages_behind_the_second_one(self):
        self.assertEqual(paged(rows_report(), numbered(50), 16, (0,)), [
            [("page", 1)] + told_rows(0, 15),
            [("page", 2)] + told_rows(15, 30),
            [("page", 3)] + told_rows(30, 45),
            [("page", 4)] + told_rows(45, 50),
        ])

    def test_heads_told_anew_count_as_lines(self):
        self.assertEqual(paged(rows_report(head=True), numbered(30), 16, (0,)), [
            [("page", 1), ("head", 0, ())] + told_rows(0, 14),
            [("page", 2), ("again", 0, ())] + told_rows(14, 28),
            [("page", 3), ("again", 0, ())] + told_rows(28, 30),
        ])
        self.assertEqual(paged(rows_report(head=True), numbered(30), 16, ()), [
            [("page", 1), ("head", 0, ())] + told_rows(0, 14),
            [("page", 2)] + told_rows(14, 29),
            [("page", 3)] + told_rows(29, 30),
        ])


class TestBlocks(unittest.TestCase):
    def test_a_foot_stays_with_the_row_ahead_of_it(self):
        foot = [("foot", 0, (), (14,))]
        self.assertEqual(paged(rows_report(foot=True), numbered(14), 16, ()), [
            [("page", 1)] + told_rows(0, 14) + foot,
        ])
        self.assertEqual(paged(rows_report(foot=True), numbered(15), 16, ()), [
            [("page", 1)] + told_rows(0, 14),
            [("page", 2), ("row", 14), ("foot", 0, (), (15,))],
        ])

    def test_a_foot_stays_with_the_row_ahead_of_it_whatever_the_rows_number(self):
        report = keyed_report((True,) * 4, (1,) * 4, True, 3, (0, 1, 2))
        told = lines(report, [(1, 1, 1), (2, 2, 2)])
        self.assertEqual(told[8:], [
            ("head", 1, (2,)), ("head", 2, (2, 2)), ("head", 3, (2, 2, 2)), ("row", 1),
            ("foot", 3, (2, 2, 2), (1,)), ("foot", 2, (2, 2), (1,)), ("foot", 1, (2,), (1,)), ("foot", 0, (), (2,)),
        ])
        self.assertEqual(paged(report, [(1, 1, 1), (2, 2, 2)], 16, (0, 1)), [
            [("page", 1)] + told[:8], [("page", 2), ("again", 0, ())] + told[8:],
        ])

    def test_a_foot_stays_with_the_deeper_foot_ahead_of_it(self):
        report = keyed_report((False, False), (1, 1), False)
        feet = [("foot", 1, (key,), (1,)) for key in range(15)]
        self.assertEqual(paged(report, [(key, 0) for key in range(14)], 16, ()), [
            [("page", 1)] + feet[:14] + [("foot", 0, (), (14,))],
        ])
        self.assertEqual(paged(report, [(key, 0) for key in range(15)], 16, ()), [
            [("page", 1)] + feet[:14],
            [("page", 2), feet[14], ("foot", 0, (), (15,))],
        ])

    def test_a_foot_behind_one_of_its_level_may_go_to_a_new_page(self):
        report = keyed_report((False, False), (0, 1), False)
        feet = [("foot", 1, (key,), (1,)) for key in range(16)]
        self.assertEqual(paged(report, [(key, 0) for key in range(16)], 16, ()), [
            [("page", 1)] + feet[:15], [("page", 2), feet[15]],
        ])

    def test_a_deeper_foot_behind_a_foot_may_go_to_a_new_page(self):
        report = keyed_report((False,) * 3, (0, 1, 1), False, 2, (0, 1))
        rows = [(0, number) for number in range(14)] + [(1, 5)]
        feet = [("foot", 2, (0, number), (1,)) for number in range(14)]
        self.assertEqual(paged(report, rows, 16, ()), [
            [("page", 1)] + feet + [("foot", 1, (0,), (14,))],
            [("page", 2), ("foot", 2, (1, 5), (1,)), ("foot", 1, (1,), (1,))],
        ])

    def test_the_first_line_stands_behind_none(self):
        feet = (None, ((0,), (0, "ge", 2)), ((0,), (1, "lt", 2)))
        report = (3, (0, 1), (), (("count", 0), ("sum", 2)), (False,) * 3, feet, False)
        self.assertEqual(paged(report, [(1, 1, 2), (1, 2, 2), (2, 1, 0)], 16, ()), [
            [("page", 1), ("foot", 1, (1,), (2,)), ("foot", 2, (2, 1), (1,))],
        ])

    def test_a_head_stays_with_the_row_behind_it(self):
        report = keyed_report((False, True), (0, 0), True)
        first = [("page", 1), ("head", 1, (0,))] + told_rows(0, 12)
        self.assertEqual(paged(report, [(0, 0)] * 12 + [(1, 0)], 16, ()), [
            first + [("head", 1, (1,)), ("row", 12)],
        ])
        self.assertEqual(paged(report, [(0, 0)] * 13 + [(1, 0)], 16, ()), [
            first + [("row", 12)],
            [("page", 2), ("head", 1, (1,)), ("row", 13)],
        ])

    def test_a_head_stays_with_the_foot_behind_it(self):
        report = keyed_report((False, True), (0, 1), False)
        blocks = [[("head", 1, (key,)), ("foot", 1, (key,), (1,))] for key in range(8)]
        self.assertEqual(paged(report, [(key, 0) for key in range(8)], 16, ()), [
            [("page", 1)] + sum(blocks[:7], []), [("page", 2)] + blocks[7],
        ])

    def test_a_head_stays_with_a_foot_of_another_level_behind_it(self):
        report = keyed_report((False, True), (1, 0), False)
        heads = [("head", 1, (key,)) for key in range(15)]
        self.assertEqual(paged(report, [(key, 0) for key in range(15)], 16, ()), [
            [("page", 1)] + heads[:14], [("page", 2), heads[14], ("foot", 0, (), (15,))],
        ])

    def test_a_head_stays_with_the_deeper_head_behind_it(self):
        report = keyed_report((False, True, True), (0, 0, 0), False, 2, (0, 1))
        rows = [(0, number) for number in range(13)] + [(1, 1), (1, 2)]
        heads = [("head", 1, (0,))] + [("head", 2, (0, number)) for number in range(13)]
        behind = [("head", 1, (1,)), ("head", 2, (1, 1)), ("head", 2, (1, 2))]
        self.assertEqual(paged(report, rows, 16, ()), [
            [("page", 1)] + heads, [("page", 2)] + behind,
        ])

    def test_heads_of_one_level_may_part(self):
        report = keyed_report((False, True), (0, 0), False)
        heads = [("head", 1, (key,)) for key in range(16)]
        self.assertEqual(paged(report, [(key, 0) for key in range(16)], 16, ()), [
            [("page", 1)] + heads[:15], [("page", 2), heads[15]],
        ])

    def test_a_less_deep_head_behind_a_head_may_go_to_a_new_page(self):
        report = keyed_report((False, True, True), (0, 0, 0), False, 2, (0, 1))
        rows = [(0, number) for number in range(14)] + [(1, 1)]
        heads = [("head", 1, (0,))] + [("head", 2, (0, number)) for number in range(14)]
        self.assertEqual(paged(report, rows, 16, ()), [
            [("page", 1)] + heads, [("page", 2), ("head", 1, (1,)), ("head", 2, (1, 1))],
        ])

    def test_a_row_behind_a_row_or_a_foot_may_go_to_a_new_page(self):
        report = keyed_report((False, False), (0, 1), True)
        self.assertEqual(paged(report, [(0, 0)] * 14 + [(1, 0)], 16, ()), [
            [("page", 1)] + told_rows(0, 14) + [("foot", 1, (0,), (14,))],
            [("page", 2), ("row", 14), ("foot", 1, (1,), (1,))],
        ])

    def test_nine_lines_go_whole_to_a_new_page(self):
        report = keyed_report((True,) * 4, (1,) * 4, True, 3, (0, 1, 2))
        block = [
            ("head", 0, ()), ("head", 1, (1,)), ("head", 2, (1, 2)), ("head", 3, (1, 2, 3)), ("row", 0),
            ("foot", 3, (1, 2, 3), (1,)), ("foot", 2, (1, 2), (1,)), ("foot", 1, (1,), (1,)), ("foot", 0, (), (1,)),
        ]
        self.assertEqual(paged(report, [(1, 2, 3)], 16, (0, 1, 2, 3)), [[("page", 1)] + block])
        report = keyed_report((False,) + (True,) * 3, (1,) * 4, True, 3, (0, 1, 2))
        block = [
            ("head", 1, (2,)), ("head", 2, (2, 2)), ("head", 3, (2, 2, 3)), ("row", 4),
            ("foot", 3, (2, 2, 3), (1,)), ("foot", 2, (2, 2), (1,)), ("foot", 1, (2,), (1,)), ("foot", 0, (), (5,)),
        ]
        first = lines(report, [(1, 2, 3)] * 4)[:-1]
        self.assertEqual(len(first), 10)
        rows = [(1, 2, 3)] * 4 + [(2, 2, 3)]
        for size in (16, 17, 18):
            self.assertEqual(paged(report, rows, size, (0, 1, 2, 3)), [[("page", 1)] + first, [("page", 2)] + block])
        self.assertEqual(paged(report, rows, 19, (0, 1, 2, 3)), [[("page", 1)] + first + block])


class TestAgain(unittest.TestCase):
    """Two keys, all heads: which heads a second page tells anew."""

    def second(self, report, rows, again):
        pages = paged(report, rows, 16, again)
        self.assertEqual([page[0] for page in pages], [("page", number + 1) for number in range(len(pages))])
        return pages[1][1:]

    def test_a_row_stands_in_the_groups_of_all_levels(self):
        report = report_with(feet=(None,) * 3)
        rows = [(7, 8, 0)] * 13
        whole = [("again", 0, ()), ("again", 1, (7,)), ("again", 2, (7, 8))]
        self.assertEqual(paged(report, rows, 16, (0, 1, 2))[0], [("page", 1)] + lines(report, rows)[:15])
        for many in range(4):
            for again in itertools.combinations((0, 1, 2), many):
                told = [whole[level] for level in again]
                self.assertEqual(self.second(report, rows, again), told + [("row", 12)])

    def test_of_levels_with_heads_only(self):
        rows = [(7, 8, 0)] * 16
        for heads in itertools.product((True, False), repeat=3):
            report = report_with(feet=(None,) * 3, heads=heads)
            told = [
                ("again", level, (7, 8)[:level]) for level in (0, 1, 2) if heads[level]
            ]
            least = 15 - sum(heads)
            self.assertEqual(self.second(report, rows, (0, 1, 2)), told + told_rows(least, 16))

    def test_a_head_is_not_told_anew_ahead_of_itself(self):
        report = report_with(feet=(None,) * 3)
        rows = [(7, 8, 0)] * 12 + [(9, 8, 0)]
        told = [("again", 0, ()), ("head", 1, (9,)), ("head", 2, (9, 8)), ("row", 12)]
        self.assertEqual(self.second(report, rows, (0, 1, 2)), told)
        self.assertEqual(self.second(report, rows, (1, 2)), told[1:])
        self.assertEqual(self.second(report, rows, ()), told[1:])

    def test_a_deeper_head_stands_in_the_groups_of_the_levels_ahead(self):
        report = report_with(feet=(None,) * 3)
        rows = [(7, 8, 0)] * 12 + [(7, 9, 0)]
        told = [("again", 0, ()), ("again", 1, (7,)), ("head", 2, (7, 9)), ("row", 12)]
        self.assertEqual(self.second(report, rows, (0, 1, 2)), told)
        self.assertEqual(self.second(report, rows, (1,)), told[1:])
        self.assertEqual(self.second(report, rows, (1, 2)), told[1:])
        self.assertEqual(self.second(report, rows, (2,)), told[2:])

    def test_a_foot_stands_in_its_own_group(self):
        report = keyed_report((True, True, False), (0, 1, 1), False, 2, (0, 1))
        rows = [(7, number) for number in range(14)]
        feet = [("foot", 2, (7, 13), (1,)), ("foot", 1, (7,), (14,))]
        self.assertEqual(self.second(report, rows, (0, 1, 2)), [("again", 0, ()), ("again", 1, (7,))] + feet)
        self.assertEqual(self.second(report, rows, (1,)), [("again", 1, (7,))] + feet)
        self.assertEqual(self.second(report, rows, (2,)), feet)

    def test_a_foot_stands_in_no_deeper_group(self):
        feet = (None, COUNT, ((0,), (0, "ge", 2)))
        report = (2, (0, 1), (), (("count", 0),), (True, False, True), feet, False)
        rows = [(number, 5) for number in range(8)]
        # A foot stands behind a head here, so that no page begins with it.
        self.assertEqual(self.second(report, rows, (0, 1, 2)), [
            ("again", 0, ()), ("head", 2, (7, 5)), ("foot", 1, (7,), (1,)),
        ])
        report = (2, (0, 1), (), (("count", 0),), (True, False, False), feet, False)
        rows = [(number, 5) for number in range(15)]
        self.assertEqual(self.second(report, rows, (0, 1, 2)), [("again", 0, ()), ("foot", 1, (14,), (1,))])

    def test_the_first_page_tells_none_anew(self):
        for heads in itertools.product((True, False), repeat=3):
            for detail in (True, False):
                report = report_with(heads=heads, detail=detail)
                page = paged(report, [(1, 2, 3)], 16, (0, 1, 2))[0]
                self.assertEqual(page, [("page", 1)] + lines(report, [(1, 2, 3)]))

    def test_pages_behind_the_second_one(self):
        report = report_with(feet=(None,) * 3, heads=(False, True, True))
        rows = [(1, 1, 0)] * 20 + [(1, 2, 0)] * 10 + [(2, 2, 0)] * 12
        self.assertEqual(paged(report, rows, 16, (1, 2)), [
            [("page", 1), ("head", 1, (1,)), ("head", 2, (1, 1))] + told_rows(0, 13),
            [("page", 2), ("again", 1, (1,)), ("again", 2, (1, 1))] + told_rows(13, 20)
            + [("head", 2, (1, 2))] + told_rows(20, 25),
            [("page", 3), ("again", 1, (1,)), ("again", 2, (1, 2))] + told_rows(25, 30)
            + [("head", 1, (2,)), ("head", 2, (2, 2))] + told_rows(30, 36),
            [("page", 4), ("again", 1, (2,)), ("again", 2, (2, 2))] + told_rows(36, 42),
        ])

    def test_rows_that_are_left_out_keep_their_numbers(self):
        report = report_with(feet=(None,) * 3, tests=((2, "ne", 0),))
        rows = [(0, 0, 0), (7, 8, 1), (1, 1, 0)] + [(7, 8, 2)] * 12
        self.assertEqual(self.second(report, rows, (2,)), [("again", 2, (7, 8)), ("row", 14)])


def belongs(ahead, line):
    """What [8] says of a line and the one ahead of it, case by case."""
    kinds = (ahead[0], line[0])
    return {
        ("head", "row"): lambda: True,
        ("head", "foot"): lambda: True,
        ("head", "head"): lambda: line[1] > ahead[1],
        ("row", "foot"): lambda: True,
        ("foot", "foot"): lambda: line[1] < ahead[1],
    }.get(kinds, lambda: False)()


class TestAnyReport(unittest.TestCase):
    """What holds of the pages of every report."""

    def assert_paged(self, report, rows, size, again):
        pages = paged(report, rows, size, again)
        told = lines(report, rows)
        at = 0
        for number, page in enumerate(pages, start=1):
            self.assertLessEqual(len(page), size)
            self.assertEqual(page[0], ("page", number))
            anew = [line for line in page if line[0] == "again"]
            laid = page[1 + len(anew):]
            self.assertEqual(page[1:1 + len(anew)], anew)
            self.assertEqual(laid, told[at:at + len(laid)])
            self.assertTrue(laid)
            self.assertEqual(anew, self.heads_anew(report, rows, again, laid[0]))
            if at:
                self.assertFalse(belongs(told[at - 1], told[at]))
                block = 1
                while at + block < len(told) and belongs(told[at + block - 1], told[at + block]):
                    block += 1
                self.assertLessEqual(block, 9)
                self.assertGreater(len(pages[number - 2]) + block, size)
            at += len(laid)
        self.assertEqual(at, len(told))

    def heads_anew(self, report, rows, again, line):
        if line[0] == "row":
            inside = {level: tuple(rows[line[1]][field] for field in report[1][:level]) for level in range(4)}
            deepest = len(report[1])
        else:
            inside = {level: line[2][:level] for level in range(4)}
            deepest = line[1]
        anew = []
        for level in again:
            own = line[:2] == ("head", level)
            if level <= deepest and not own and report[4][level]:
                anew.append(("again", level, inside[level]))
        return anew

    def test_many(self):
        chance = random.Random(8)
        for turn in range(600):
            many = chance.randrange(4)
            heads = tuple(chance.random() < 0.6 for level in range(many + 1))
            feet = tuple(
                chance.choice((None, COUNT, ((0, 1), None), ((), (0, "ge", 2)))) for level in range(many + 1)
            )
            tests = chance.choice(((), ((2, "ne", 1),)))
            report = (3, (0, 1, 2)[:many], tests, ALL_SUMS, heads, feet, chance.random() < 0.7)
            most = chance.choice((2, 3, 5))
            rows = sorted(tuple(chance.randrange(most) for field in range(3)) for row in range(chance.randrange(61)))
            again = tuple(level for level in range(many + 1) if chance.random() < 0.7)
            with self.subTest(report=report, rows=rows, again=again):
                self.assert_paged(report, rows, chance.choice((16, 16, 17, 20, 31, 60)), again)


if __name__ == "__main__":
    unittest.main()
