"""Rows of two sides matched by keys [12]."""

import unittest

from breakreports.errors import BadKeys, BadOrder, BadRows
from breakreports.merging import matched
from samples import refused

ONE_KEY = ((0, 0),)
NO_ROWS = (
    "", "abc", 0, 1, True, False, None, (-1,), (1000,), (True,), (False,), (None,), ("1",), ((1,),),
    (0, -1), (0, 1000), (0, True), (0, "x"), (0, 0, 0, 0, -1), (0, 0, 0, 0, 0, 0), (0,) * 7,
)


class TestMatched(unittest.TestCase):
    def test_one_key(self):
        self.assertEqual(matched([(1, 5), (2, 6), (4, 7)], [(2,), (3,), (4,)], ONE_KEY), [
            ((1,), [0], []),
            ((2,), [1], [0]),
            ((3,), [], [1]),
            ((4,), [2], [2]),
        ])

    def test_many_alike(self):
        self.assertEqual(matched([(1,), (1,), (3,), (3,), (3,)], [(1,), (2,), (2,), (3,), (3,)], ONE_KEY), [
            ((1,), [0, 1], [0]),
            ((2,), [], [1, 2]),
            ((3,), [2, 3, 4], [3, 4]),
        ])

    def test_one_side_wholly_ahead_of_the_other(self):
        ahead, behind = [(1,), (2,)], [(3,), (3,)]
        self.assertEqual(matched(ahead, behind, ONE_KEY), [((1,), [0], []), ((2,), [1], []), ((3,), [], [0, 1])])
        self.assertEqual(matched(behind, ahead, ONE_KEY), [((1,), [], [0]), ((2,), [], [1]), ((3,), [0, 1], [])])

    def test_empty_sides(self):
        self.assertEqual(matched([], [], ONE_KEY), [])
        self.assertEqual(matched([(1,), (2,)], [], ONE_KEY), [((1,), [0], []), ((2,), [1], [])])
        self.assertEqual(matched([], [(1,), (2,)], ONE_KEY), [((1,), [], [0]), ((2,), [], [1])])

    def test_fields_of_each_side(self):
        self.assertEqual(matched([(9, 1), (8, 2)], [(0, 0, 2), (0, 0, 3)], ((1, 2),)), [
            ((1,), [0], []), ((2,), [1], [0]), ((3,), [], [1]),
        ])

    def test_two_and_three_keys(self):
        one = [(1, 1, 9), (1, 2, 8), (2, 1, 7)]
        other = [(1, 2, 1), (2, 1, 3), (5, 1, 2)]
        self.assertEqual(matched(one, one, ((0, 0), (1, 1))), [
            ((1, 1), [0], [0]), ((1, 2), [1], [1]), ((2, 1), [2], [2]),
        ])
        self.assertEqual(matched(one, [(2, 1), (1, 2)], ((0, 1), (1, 0))), [
            ((1, 1), [0], []), ((1, 2), [1], [0]), ((2, 1), [2], [1]),
        ])
        self.assertEqual(matched(one, other, ((0, 0), (1, 1), (2, 2))), [
            ((1, 1, 9), [0], []), ((1, 2, 1), [], [0]), ((1, 2, 8), [1], []),
            ((2, 1, 3), [], [1]), ((2, 1, 7), [2], []), ((5, 1, 2), [], [2]),
        ])

    def test_keys_rise_as_numbers(self):
        self.assertEqual(
            [key for key, one, other in matched([(9,), (10,), (100,)], [(0,), (11,), (999,)], ONE_KEY)],
            [(0,), (9,), (10,), (11,), (100,), (999,)],
        )

    def test_a_field_may_be_told_twice(self):
        self.assertEqual(matched([(1, 2)], [(1, 1)], ((0, 0), (0, 1))), [((1, 1), [0], [0])])

    def test_rows_of_one_side_may_be_of_unlike_widths(self):
        self.assertEqual(
            matched([(1,), (1, 2), (2, 0, 0, 0, 999)], [(0, 1), (5, 2, 7)], ((0, 1),)),
            [((1,), [0, 1], [0]), ((2,), [2], [1])],
        )

    def test_kinds(self):
        told = matched([(1, 2)], [(1, 2), (3, 4)], ((0, 0), (1, 1)))
        self.assertIs(told.__class__, list)
        for line in told:
            self.assertIs(line.__class__, tuple)
            self.assertEqual([thing.__class__ for thing in line], [tuple, list, list])

    def test_sixty_rows(self):
        rows = [(number,) for number in range(60)]
        self.assertEqual(matched(rows, rows, ONE_KEY), [((number,), [number], [number]) for number in range(60)])
        self.assertEqual(matched([(7,)] * 60, [(7,)] * 60, ONE_KEY), [((7,), list(range(60)), list(range(60)))])


class TestKeys(unittest.TestCase):
    WRONG = (
        (), (0, 0), (0,), 0, 1, 5, ((0, 0),) * 4, ((0, 0),) * 5, ((5, 0),), ((0, 5),), ((-1, 0),), ((0, -1),),
        ((0,),), ((0, 0, 0),), ((),), ((0, 0), 0), ((0, 0), ()), ((0, 0), (0, 5)), ((0, 0), (1, 1), (2, 9)),
        (((0, 0),),), (((0,), 0),), ((0, (0,)),), ((True, 0),), ((0, False),),
    )

    def test_others_are_refused_ahead_of_all(self):
        for keys in self.WRONG:
            for one in ([], [(1,) * 5], [None], [(2,), (1,)], [(1,)] * 61):
                for other in ([], [None]):
                    with self.subTest(keys=keys, one=one):
                        refused(BadKeys, matched, one, other, keys)

    def test_edges_are_allowed(self):
        row = (1, 2, 3, 4, 5)
        for field in range(5):
            self.assertEqual(matched([row], [], ((field, 4 - field),)), [((field + 1,), [0], [])])
            self.assertEqual(matched([], [row], ((4 - field, field),)), [((field + 1,), [], [0])])
        for many in (1, 2, 3):
            self.assertEqual(matched([row], [row], ((2, 2),) * many), [((3,) * many, [0], [0])])


class TestRows(unittest.TestCase):
    def assert_refused(self, error, rows, number, field=0):
        """Each side is refused alike."""
        good = [(0,) * 5, (999,) * 5]
        for told in ((rows, good, ((field, 4),)), (good, rows, ((4, field),))):
            with self.subTest(told=told):
                refusal = refused(error, matched, *told)
                self.assertEqual(refusal.number, number)
                self.assertIs(refusal.number.__class__, int)

    def test_rows_that_cant_be(self):
        good = [(1,), (2,), (3,)]
        for row in NO_ROWS + ((),):
            for at in range(3):
                self.assert_refused(BadRows, good[:at] + [row] + good[at + 1:], at)

    def test_rows_that_lack_a_field(self):
        for field in range(5):
            good = (5,) * (field + 1)
            for many in range(field + 1):
                self.assert_refused(BadRows, [good, (5,) * many, good], 1, field)

    def test_the_field_of_any_pair(self):
        for keys in (((0, 0), (2, 0)), ((2, 0), (0, 0)), ((0, 0), (2, 0), (1, 0))):
            self.assertEqual(refused(BadRows, matched, [(1, 1, 1), (1, 1)], [], keys).number, 1)
            turned = tuple((other, one) for one, other in keys)
            self.assertEqual(refused(BadRows, matched, [], [(1, 1, 1), (1, 1)], turned).number, 1)

    def test_each_side_has_its_own_fields(self):
        self.assertEqual(matched([(1,)], [(0, 0, 0, 0, 1)], ((0, 4),)), [((1,), [0], [0])])
        self.assertEqual(refused(BadRows, matched, [(1,)], [(1,)], ((0, 4),)).number, 0)

    def test_the_sixty_first(self):
        for many in (61, 62, 100):
            self.assert_refused(BadRows, [(1,)] * many, 60)
        self.assert_refused(BadRows, [(1,)] * 60 + [None], 60)
        self.assert_refused(BadRows, [(1,)] * 30 + [None] + [(1,)] * 30, 30)

    def test_order(self):
        self.assert_refused(BadOrder, [(1,), (0,)], 1)
        self.assert_refused(BadOrder, [(1,), (3,), (2,), (1,)], 2)
        self.assert_refused(BadOrder, [(1,), (1,), (2,), (1,)], 3)
        self.assert_refused(BadOrder, [(0, 1), (5, 0)], 1, 1)

    def test_order_of_keys_as_tuples(self):
        fallen = [(1, 1), (1, 3), (1, 2)]
        self.assertEqual(refused(BadOrder, matched, fallen, [], ((0, 0), (1, 1))).number, 2)
        self.assertEqual(refused(BadOrder, matched, [], fallen, ((0, 0), (1, 1))).number, 2)
        self.assertEqual(matched(fallen, [], ONE_KEY), [((1,), [0, 1, 2], [])])
        self.assertEqual(matched([(1, 9), (2, 0)], [], ((0, 0), (1, 1))), [((1, 9), [0], []), ((2, 0), [1], [])])

    def test_a_wrong_row_goes_ahead_of_a_fall(self):
        self.assert_refused(BadRows, [(2,), (1,), None], 2)
        self.assert_refused(BadRows, [(2,), (1,)] + [(3,)] * 59, 60)

    def test_the_first_side_goes_ahead_of_the_second_one(self):
        wrong, fallen = [(1,), None], [(1,), (2,), (1,)]
        for other in ([], wrong, fallen, [None]):
            self.assertEqual(refused(BadRows, matched, wrong, other, ONE_KEY).number, 1)
            self.assertEqual(refused(BadOrder, matched, fallen, other, ONE_KEY).number, 2)
        self.assertEqual(refused(BadRows, matched, [(1,)], wrong, ONE_KEY).number, 1)
        self.assertEqual(refused(BadOrder, matched, [(1,)], fallen, ONE_KEY).number, 2)


if __name__ == "__main__":
    unittest.main()
