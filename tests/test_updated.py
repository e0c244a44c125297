"""Masters brought up to date by moves [13]."""

import itertools
import unittest

from breakreports.errors import BadMoves, BadOrder, BadRows
from breakreports.merging import updated
from samples import refused

MASTERS = [(2, 20), (4, 40), (6, 60)]


class TestUpdated(unittest.TestCase):
    def assert_updated(self, moves, masters, undone):
        self.assertEqual(updated(MASTERS, moves), (masters, undone))

    def test_no_moves(self):
        self.assert_updated([], MASTERS, [])
        self.assertEqual(updated([], []), ([], []))

    def test_add(self):
        self.assert_updated([(3, "add", 7)], [(2, 20), (3, 7), (4, 40), (6, 60)], [])
        self.assert_updated([(4, "add", 7)], MASTERS, [(0, "there")])

    def test_set(self):
        self.assert_updated([(4, "set", 7)], [(2, 20), (4, 7), (6, 60)], [])
        self.assert_updated([(3, "set", 7)], MASTERS, [(0, "lacks")])

    def test_drop(self):
        self.assert_updated([(4, "drop", 7)], [(2, 20), (6, 60)], [])
        self.assert_updated([(4, "drop", 40)], [(2, 20), (6, 60)], [])
        self.assert_updated([(3, "drop", 7)], MASTERS, [(0, "lacks")])

    def test_ahead_of_between_and_behind_all_masters(self):
        self.assert_updated(
            [(0, "add", 1), (1, "drop", 1), (3, "add", 3), (5, "set", 5), (7, "add", 7), (999, "add", 9)],
            [(0, 1), (2, 20), (3, 3), (4, 40), (6, 60), (7, 7), (999, 9)],
            [(1, "lacks"), (3, "lacks")],
        )

    def test_the_first_and_the_last_master(self):
        self.assert_updated([(2, "drop", 0), (6, "drop", 0)], [(4, 40)], [])
        self.assert_updated([(2, "set", 0), (6, "set", 999)], [(2, 0), (4, 40), (6, 999)], [])
        self.assert_updated([(2, "add", 0), (6, "add", 0)], MASTERS, [(0, "there"), (1, "there")])

    def test_several_moves_of_one_key(self):
        self.assert_updated([(4, "set", 1), (4, "set", 2), (4, "set", 3)], [(2, 20), (4, 3), (6, 60)], [])
        self.assert_updated([(3, "add", 1), (3, "add", 2)], [(2, 20), (3, 1), (4, 40), (6, 60)], [(1, "there")])
        self.assert_updated([(4, "drop", 1), (4, "drop", 2)], [(2, 20), (6, 60)], [(1, "lacks")])

    def test_add_behind_drop(self):
        self.assert_updated([(4, "drop", 0), (4, "add", 5)], [(2, 20), (4, 5), (6, 60)], [])

    def test_drop_behind_add(self):
        self.assert_updated([(3, "add", 5), (3, "drop", 5)], MASTERS, [])

    def test_set_behind_drop_and_behind_add(self):
        self.assert_updated([(4, "drop", 0), (4, "set", 5)], [(2, 20), (6, 60)], [(1, "lacks")])
        self.assert_updated([(3, "add", 5), (3, "set", 6)], [(2, 20), (3, 6), (4, 40), (6, 60)], [])

    def test_moves_that_cant_be_done_change_nothing(self):
        self.assert_updated(
            [(3, "set", 1), (3, "drop", 1), (3, "add", 8), (3, "add", 9), (4, "add", 9), (4, "set", 1)],
            [(2, 20), (3, 8), (4, 1), (6, 60)],
            [(0, "lacks"), (1, "lacks"), (3, "there"), (4, "there")],
        )

    def test_any_three_moves_of_one_key(self):
        for there, words in itertools.product((True, False), itertools.product(("add", "drop", "set"), repeat=3)):
            worth = 5 if there else None
            undone = []
            for number, word in enumerate(words):
                if (word == "add") == (worth is not None):
                    undone.append((number, "there" if word == "add" else "lacks"))
                else:
                    worth = None if word == "drop" else number
            masters = [] if worth is None else [(1, worth)]
            moves = [(1, word, number) for number, word in enumerate(words)]
            self.assertEqual(updated([(1, 5)] if there else [], moves), (masters, undone))

    def test_no_masters(self):
        self.assertEqual(updated([], [(0, "add", 0), (0, "set", 1), (5, "drop", 1)]), ([(0, 1)], [(2, "lacks")]))

    def test_sixty_of_each(self):
        masters = [(number, number) for number in range(0, 120, 2)]
        moves = [(number, "add", 5) for number in range(1, 121, 2)]
        self.assertEqual(
            updated(masters, moves), ([(number, 5 if number % 2 else number) for number in range(120)], []),
        )

    def test_kinds(self):
        told = updated(MASTERS, [(2, "add", 1), (3, "add", 1)])
        self.assertIs(told.__class__, tuple)
        self.assertEqual([thing.__class__ for thing in told], [list, list])
        for thing in told[0] + told[1]:
            self.assertIs(thing.__class__, tuple)


class TestMasters(unittest.TestCase):
    def assert_refused(self, error, masters, number):
        for moves in ([], [None], [(2, "add", 1), (1, "add", 1)]):
            with self.subTest(masters=masters):
                refusal = refused(error, updated, masters, moves)
                self.assertEqual(refusal.number, number)
                self.assertIs(refusal.number.__class__, int)

    def test_masters_that_cant_be(self):
        wrong = (
            (), (1,), (1, 2, 3), "", "ab", 0, 5, True, False, None, (-1, 0), (0, -1), (1000, 0), (0, 1000),
            (True, 0), (0, False), (None, 0), (0, None), ("1", 0), (0, "1"), ((0,), 0), (0, (0,)), ((0, 0),),
        )
        for master in wrong:
            for at in range(3):
                self.assert_refused(BadRows, MASTERS[:at] + [master] + MASTERS[at + 1:], at)

    def test_edges_are_allowed(self):
        masters = [(0, 999), (999, 0)]
        self.assertEqual(updated(masters, []), (masters, []))

    def test_the_sixty_first(self):
        good = [(number, 0) for number in range(60)]
        self.assertEqual(updated(good, []), (good, []))
        for more in ([(60, 0)], [(60, 0), (61, 0)], [None], [(0, 0)]):
            self.assert_refused(BadRows, good + more, 60)
        self.assert_refused(BadRows, good[:30] + [(1000, 0)] + good[30:], 30)

    def test_order(self):
        self.assert_refused(BadOrder, [(2, 0), (1, 0)], 1)
        self.assert_refused(BadOrder, [(2, 0), (2, 0)], 1)
        self.assert_refused(BadOrder, [(2, 0), (2, 1)], 1)
        self.assert_refused(BadOrder, [(1, 0), (2, 0), (4, 0), (3, 0), (0, 0)], 3)
        self.assert_refused(BadOrder, [(1, 0), (5, 0), (5, 0), (3, 0)], 2)
        self.assert_refused(BadOrder, [(0, 0), (0, 9)], 1)

    def test_a_wrong_master_goes_ahead_of_a_fall(self):
        self.assert_refused(BadRows, [(2, 0), (1, 0), None], 2)
        self.assert_refused(BadRows, [(2, 0)] * 61, 60)


class TestMoves(unittest.TestCase):
    def assert_refused(self, moves, number):
        for masters in ([], MASTERS):
            with self.subTest(moves=moves):
                refusal = refused(BadMoves, updated, masters, moves)
                self.assertEqual(refusal.number, number)
                self.assertIs(refusal.number.__class__, int)

    def test_moves_that_cant_be(self):
        good = [(1, "add", 1), (2, "set", 1), (2, "drop", 1)]
        wrong = [
            (), (1,), (1, "add"), (2, "add", 1, 1), ("add", 2, 1), (2, 1, "add"), "", "add", 0, 1, True, False, None,
        ]
        wrong += [(key, "add", 1) for key in (-1, 1000, True, False, None, "2", (2,))]
        wrong += [(2, word, 1) for word in ("", "Add", "adds", "get", "there", 0, True, None, ("add",))]
        wrong += [(2, word, worth) for word in ("add", "drop", "set") for worth in (-1, 1000, True, None, "1", ())]
        for move in wrong:
            for at in range(3):
                self.assert_refused(good[:at] + [move] + good[at + 1:], at)

    def test_edges_are_allowed(self):
        self.assertEqual(updated([], [(0, "add", 0), (999, "add", 999)]), ([(0, 0), (999, 999)], []))

    def test_moves_that_fall(self):
        self.assert_refused([(2, "add", 1), (1, "add", 1)], 1)
        self.assert_refused([(2, "add", 1), (2, "add", 1), (5, "add", 1), (4, "add", 1), (0, "add", 1)], 3)
        self.assert_refused([(1, "add", 1), (3, "drop", 1), (2, "set", 1)], 2)

    def test_the_sixty_first(self):
        good = [(1, "set", 1)] * 60
        self.assertEqual(updated([(1, 0)], good), ([(1, 1)], []))
        for more in ([(1, "set", 1)], [(1, "set", 1)] * 9, [None], [(0, "set", 1)]):
            self.assert_refused(good + more, 60)

    def test_the_first_wrong_one_is_told_whatever_is_wrong_with_it(self):
        self.assert_refused([(2, "add", 1), (1, "add", 1), None], 1)
        self.assert_refused([(2, "add", 1), None, (1, "add", 1)], 1)
        self.assert_refused([(1, "add", 1)] * 40 + [(0, "add", 1)] + [(1, "add", 1)] * 20, 40)


if __name__ == "__main__":
    unittest.main()
