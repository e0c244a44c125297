"""What is said of everything [1]: nothing handed in is changed or kept, asked again the same is told."""

import copy
import unittest

from breakreports.errors import ReportError
from breakreports.lines import lines, totals
from breakreports.merging import matched, updated
from breakreports.notes import read, written
from breakreports.pages import paged
from breakreports.plans import done, plain
from breakreports.reports import in_order
from samples import report_with

ROWS = [(1, 1, 10), (1, 1, 20), (1, 2, 0), (2, 2, 40)]
TESTED = report_with(tests=((2, "ne", 0),))
PLAN = plain(TESTED)
TEXT = written(TESTED)
MASTERS = [(1, 10), (2, 20), (4, 40)]
MOVES = [(1, "set", 11), (2, "drop", 0), (2, "drop", 0), (3, "add", 30), (4, "add", 1)]

# Every function of the interface, with what it is handed.
CALLS = (
    (in_order, (TESTED, ROWS)),
    (lines, (TESTED, ROWS)),
    (totals, (TESTED, ROWS)),
    (totals, (TESTED, [])),
    (paged, (TESTED, ROWS, 16, (0, 1, 2))),
    (paged, (report_with(keys=(), heads=(True,), feet=(None,)), ROWS * 10, 16, (0,))),
    (plain, (TESTED,)),
    (done, (TESTED, PLAN, ROWS, 5000)),
    (done, (TESTED, PLAN, ROWS[::-1], 30)),
    (matched, (ROWS, [(1,), (3,)], ((0, 0),))),
    (matched, ([], ROWS, ((0, 1),))),
    (updated, (MASTERS, MOVES)),
    (updated, ([], [])),
    (written, (TESTED,)),
    (read, (TEXT,)),
)

# Of each function that may be handed a list, a refusal that comes late.
REFUSED = (
    (in_order, (TESTED, ROWS + [None])),
    (lines, (TESTED, ROWS + ROWS)),
    (totals, (TESTED, ROWS * 16)),
    (paged, (TESTED, ROWS, 16, (3,))),
    (done, (TESTED, PLAN, ROWS, 5001)),
    (matched, (ROWS, ROWS[::-1], ((0, 0),))),
    (updated, (MASTERS, MOVES[::-1])),
)


def spoil(thing):
    """Change all lists in it, inner ones first."""
    if isinstance(thing, (list, tuple)):
        for inner in thing:
            spoil(inner)
    if isinstance(thing, list):
        thing.append("changed")
        thing[0] = "changed"


def lists_in(thing):
    """All lists in it, itself too."""
    if not isinstance(thing, (list, tuple)):
        return []
    found = [thing] if isinstance(thing, list) else []
    for inner in thing:
        found.extend(lists_in(inner))
    return found


class TestUnchanged(unittest.TestCase):
    def test_what_is_handed_in_is_the_same_behind_a_call(self):
        for ask, told in CALLS:
            with self.subTest(ask=ask.__name__):
                kept = copy.deepcopy(told)
                ask(*told)
                self.assertEqual(told, kept)

    def test_what_is_handed_in_is_the_same_behind_a_refusal(self):
        for ask, told in REFUSED:
            with self.subTest(ask=ask.__name__):
                kept = copy.deepcopy(told)
                with self.assertRaises(ReportError):
                    ask(*told)
                self.assertEqual(told, kept)

    def test_asked_again_the_same_is_told(self):
        for ask, told in CALLS:
            with self.subTest(ask=ask.__name__):
                self.assertEqual(ask(*told), ask(*copy.deepcopy(told)))

    def test_lists_told_may_be_changed(self):
        for ask, told in CALLS:
            with self.subTest(ask=ask.__name__):
                handed = copy.deepcopy(told)
                answer = ask(*handed)
                kept = copy.deepcopy(answer)
                spoil(answer)
                self.assertEqual(handed, told)
                self.assertEqual(ask(*handed), kept)

    def test_no_list_is_told_at_two_places(self):
        for ask, told in CALLS:
            with self.subTest(ask=ask.__name__):
                found = lists_in((ask(*told), told))
                self.assertEqual(len({id(one) for one in found}), len(found))

    def test_an_answer_stays_as_it_was_where_what_was_handed_in_is_changed_later(self):
        for ask, told in CALLS:
            with self.subTest(ask=ask.__name__):
                handed = copy.deepcopy(told)
                answer = ask(*handed)
                kept = copy.deepcopy(answer)
                spoil(handed)
                self.assertEqual(answer, kept)
                self.assertEqual(ask(*told), kept)

    def test_changed_rows_are_asked_anew(self):
        for ask, more in ((in_order, ()), (lines, ()), (totals, ()), (paged, (16, ()))):
            rows = list(ROWS)
            ask(TESTED, rows, *more)
            rows.append((3, 3, 3))
            self.assertEqual(ask(TESTED, rows, *more), ask(TESTED, ROWS + [(3, 3, 3)], *more))

    def test_refused_again_for_the_same(self):
        for ask, told in REFUSED:
            refusals = []
            for again in range(2):
                with self.assertRaises(ReportError) as caught:
                    ask(*told)
                refusals.append(caught.exception)
            first, other = refusals
            self.assertIs(first.__class__, other.__class__)
            self.assertEqual(vars(first), vars(other))
            self.assertIsNot(first, other)


class TestOneListAtTwoPlaces(unittest.TestCase):
    def test_matched_of_a_list_and_itself(self):
        rows = list(ROWS)
        told = matched(rows, rows, ((0, 0),))
        self.assertEqual(told, [((1,), [0, 1, 2], [0, 1, 2]), ((2,), [3], [3])])
        told[0][1].append(9)
        self.assertEqual(told[0][2], [0, 1, 2])
        self.assertEqual(rows, ROWS)

    def test_updated_of_an_empty_list_and_itself(self):
        nothing = []
        masters, undone = updated(nothing, nothing)
        self.assertEqual((masters, undone, nothing), ([], [], []))
        masters.append("changed")
        self.assertEqual((undone, nothing), ([], []))

    def test_rows_used_by_one_function_behind_the_other(self):
        rows = list(ROWS)
        alone = [ask(TESTED, list(ROWS), *more) for ask, more in (
            (lines, ()), (totals, ()), (in_order, ()), (paged, (16, (0,))),
        )]
        together = [lines(TESTED, rows), totals(TESTED, rows), in_order(TESTED, rows), paged(TESTED, rows, 16, (0,))]
        self.assertEqual(together, alone)
        self.assertEqual(done(TESTED, PLAN, rows, 5000), (alone[0], "end"))
        self.assertEqual(matched(rows, rows[:1], ((0, 0),)), [((1,), [0, 1, 2], [0]), ((2,), [3], [])])
        self.assertEqual(rows, ROWS)


if __name__ == "__main__":
    unittest.main()
