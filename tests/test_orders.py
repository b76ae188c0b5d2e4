"""Points 2.1 to 2.3 as far as orders.py tells of them: stages, lack, fault, is_fault."""

import unittest
from itertools import combinations

from oncetwice.errors import NoMoment, NoOrder
from oncetwice.orders import fault, is_fault, lack, stages
from oncetwice.wishes import Wish
from tests.helping import (
    FAR, SWAP, TURN, deep, faults_of, is_good, lack_of, odd_things, orders_of, replaced, singly, small_wishes,
    spoiled, threes, wish, words_at)

N, D, A = "not begun", "done", "amid"
NO_MOMENTS = [-1, 4, 10 ** 20, -10 ** 20, (0,), "0", [0], ()]
TWO_SWAPS = wish([(0, 1, 0, 0), (1, 0, 0, 0), (0, 0, 0, 1), (0, 0, 1, 0)], (), 1)


def no_orders(cells):
    """Things that are no order of so many cells."""
    bad = [(cells,), (-1,), (0, cells, 0), (True,), (False, 0), (0, None), ((0,),), ("0",), [0], [], 0,
           (0,) * 61, (10 ** 20,), (0, (0, 1)), range(2), ((0, 1), 0)]
    return bad + odd_things() + [deep(0, 36), (0,) * 20000, ([],) * 20000]


class StagesTest(unittest.TestCase):

    def test_each_moment_by_hand(self):
        told = [stages(SWAP, (0, 1, 0), moment) for moment in range(4)]
        self.assertEqual(told, [(N, N), (A, N), (A, D), (D, D)])

    def test_the_kinds(self):
        told = stages(SWAP, (0, 1, 0), 2)
        self.assertEqual((type(told), [type(word) for word in told]), (tuple, [str, str]))

    def test_no_writing(self):
        self.assertEqual(stages(TURN, (), 0), (N, N, N))

    def test_a_free_cell_is_never_done(self):
        a_wish = wish([(0, 1), None])
        told = [stages(a_wish, (1, 0, 1), moment) for moment in range(4)]
        self.assertEqual(told, [(N, N), (N, A), (D, A), (D, A)])

    def test_a_spare_cell_is_never_done(self):
        a_wish = wish([(0, 1), None], (), 2)
        told = [stages(a_wish, (2, 0, 1, 2), moment) for moment in range(5)]
        self.assertEqual(told, [(N, N, N, N), (N, N, A, N), (D, N, A, N), (D, A, A, N), (D, A, A, N)])

    def test_a_cell_that_keeps_and_a_locked_one_are_done_too(self):
        a_wish = wish([(1, 0), (0, 1)], (1,))
        self.assertEqual(stages(a_wish, (0, 1, 1), 1), (D, N))
        self.assertEqual(stages(a_wish, (0, 1, 1), 2), (D, A))
        self.assertEqual(stages(a_wish, (0, 1, 1), 3), (D, D))

    def test_all_short_orders(self):
        for a_wish in threes():
            for order in orders_of(len(a_wish.rows) + a_wish.spare, 3):
                for moment in range(len(order) + 1):
                    self.assertEqual(stages(a_wish, order, moment), words_at(a_wish, singly(order), moment))

    def test_sixty_cells(self):
        order = (0, 1) * 30
        self.assertEqual(stages(SWAP, order, 59), (D, A))
        self.assertEqual(stages(SWAP, order, 60), (D, D))

    def test_no_order(self):
        for order in no_orders(2):
            with self.assertRaises(NoOrder):
                stages(SWAP, order, 0)
        self.assertEqual(stages(wish([(1,)], (), 1), (1,), 1), (N, A))
        with self.assertRaises(NoOrder):
            stages(wish([(1,)], (), 1), (2,), 1)

    def test_no_moment(self):
        for moment in NO_MOMENTS + odd_things():
            with self.assertRaises(NoMoment):
                stages(SWAP, (0, 1, 0), moment)
        with self.assertRaises(NoMoment):
            stages(SWAP, (), 1)

    def test_no_order_comes_ahead_of_no_moment(self):
        for thing in odd_things():
            with self.assertRaises(NoOrder):
                stages(SWAP, thing, thing)
            with self.assertRaises(NoOrder):
                stages(SWAP, (7,), thing)


class LackTest(unittest.TestCase):

    def test_the_examples(self):
        self.assertEqual(lack(FAR, (0, 1), 1), (1, 0))

    def test_each_moment_by_hand(self):
        # Behind 0: the wish b and b itself stand safe, a lacks and may stand in the cell amid.
        self.assertEqual([lack(SWAP, (0, 1, 0), moment) for moment in range(4)], [(0, 0), (1, 1), (1, 1), (0, 0)])
        # Behind 0 of (0, 1, 2): b, b and c are safe, a lacks; nothing is amid.
        self.assertEqual([lack(TURN, (0, 1, 2), moment) for moment in range(4)], [(0, 0), (1, 0), (1, 0), (0, 0)])

    def test_broken_numbers_by_hand(self):
        # 3a - 2b is six times a/2 - b/3: behind the first writing b stands safe beside it.
        alike = wish([("1/2", "-1/3"), (3, -2)])
        self.assertEqual([lack(alike, (0, 1), moment) for moment in range(3)], [(0, 0), (0, 0), (0, 0)])
        # Behind (1, ...): a and 3a - 2b. Behind both: one row alone, and all wishes are its multiples.
        self.assertEqual([lack(alike, (1, 0), moment) for moment in range(3)], [(0, 0), (0, 0), (0, 0)])
        # 2/3 b is a multiple of what cell 1 still holds: of the rank two of both wishes one lacks.
        self.assertEqual(lack(wish([(0, "2/3"), ("5/7", "1/9")]), (0, 1), 1), (1, 0))
        self.assertEqual(lack(wish([("2/3", "1/100"), ("5/7", "1/9")]), (0, 1), 1), (0, 0))
        # Rows 1 2 3, 4 5 6, 7 8 9 have rank two, with the unit row of c three.
        near = wish([(1, 2, 3), (4, 5, 6), (7, 8, 9)])
        self.assertEqual([lack(near, (0, 1, 2), moment) for moment in range(4)], [(0, 0)] * 4)
        self.assertEqual(lack(near, (0, 1, 2, 0, 1), 3), (1, 2))

    def test_the_rank_is_of_wishes_and_what_stands_safe(self):
        # b alone is wished; a stands safe beside it, so nothing lacks though the rank of both is two.
        self.assertEqual(lack(wish([None, (0, 1)]), (), 0), (0, 0))
        self.assertEqual(lack(wish([None, (1, 0)]), (0,), 1), (1, 1))
        self.assertEqual(lack(wish([None, (0, 1)]), (0,), 1), (0, 1))
        self.assertEqual(lack(wish([None, None]), (0, 1), 2), (0, 2))

    def test_spare_cells_are_amid_but_not_safe(self):
        self.assertEqual([lack(TWO_SWAPS, (4, 0, 2, 1, 3), moment) for moment in range(6)],
                         [(0, 0), (0, 1), (1, 1), (2, 1), (1, 1), (0, 1)])

    def test_locked_cells_count_like_others(self):
        self.assertEqual(lack(wish([(0, 1), (1, 0)], (0, 1)), (0, 1), 1), (1, 0))

    def test_the_kinds(self):
        told = lack(SWAP, (0, 1, 0), 1)
        self.assertEqual((type(told), [type(item) for item in told]), (tuple, [int, int]))

    def test_all_short_orders(self):
        for a_wish in threes():
            for order in orders_of(len(a_wish.rows) + a_wish.spare, 3):
                for moment in range(len(order) + 1):
                    self.assertEqual(lack(a_wish, order, moment), lack_of(a_wish, singly(order), moment))

    def test_errors_in_their_order(self):
        for order in no_orders(2):
            for moment in (0, 99, None):
                with self.assertRaises(NoOrder):
                    lack(SWAP, order, moment)
        for moment in NO_MOMENTS + odd_things():
            with self.assertRaises(NoMoment):
                lack(SWAP, (0, 1, 0), moment)


class FaultTest(unittest.TestCase):

    def test_the_examples(self):
        self.assertEqual(fault(FAR, (0, 1)), ("moment", 1, (1,)))
        self.assertIsNone(fault(FAR, (1, 0)))
        self.assertIsNone(fault(SWAP, (0, 1, 0)))
        self.assertIsNone(fault(SWAP, (1, 0, 1)))

    def test_the_first_place_of_a_locked_cell(self):
        locked = wish([(0, 1, 0), (1, 0, 0), (0, 0, 1)], (0, 2))
        self.assertEqual(fault(locked, (1, 2, 1, 0)), ("locked", 1))
        self.assertEqual(fault(locked, (0, 2)), ("locked", 0))
        self.assertEqual(fault(wish([None, (0, 1)], (0, 1)), (1, 0)), ("locked", 0))

    def test_the_least_cell_that_is_never_written(self):
        self.assertEqual(fault(TURN, ()), ("never", 0))
        self.assertEqual(fault(TURN, (0,)), ("never", 1))
        self.assertEqual(fault(TURN, (2, 0)), ("never", 1))
        self.assertEqual(fault(wish([(1, 0), (1, 1)]), ()), ("never", 1))
        self.assertEqual(fault(wish([None, (1, 1)]), (0,)), ("never", 1))
        self.assertIsNone(fault(wish([None, (0, 1)]), ()))

    def test_a_locked_cell_that_does_not_keep(self):
        self.assertEqual(fault(wish([(0, 1), (0, 1)], (0,)), ()), ("never", 0))
        self.assertEqual(fault(wish([(0, 1), (0, 1)], (0,)), (0,)), ("locked", 0))

    def test_the_first_moment_with_the_least_lot(self):
        self.assertEqual(fault(TURN, (0, 1, 2)), ("moment", 1, (2,)))
        self.assertEqual(fault(TURN, (2, 1, 0)), ("moment", 1, (1,)))
        self.assertEqual(fault(TWO_SWAPS, (4, 0, 2, 1, 3)), ("moment", 3, (1, 3)))
        self.assertEqual(fault(TWO_SWAPS, (0, 4, 2, 1, 3)), ("moment", 1, (1,)))
        self.assertIsNone(fault(TWO_SWAPS, (4, 0, 1, 4, 2, 3)))
        # Both a + b and a are lost behind the first writing; the cell of a + b is less.
        self.assertEqual(fault(wish([(0, 1, 0), (1, 1, 0), (1, 0, 0)]), (0, 1, 2)), ("moment", 1, (1,)))

    def test_one_sort_comes_ahead_of_the_next(self):
        mixed = wish([(0, 1, 0), (1, 0, 0), (0, 0, 1)], (2,))
        self.assertEqual(fault(mixed, (0, 2)), ("locked", 1))
        self.assertEqual(fault(mixed, (0,)), ("never", 1))
        self.assertEqual(fault(mixed, (0, 1)), ("moment", 1, (1,)))
        self.assertIsNone(fault(mixed, (0, 1, 0)))

    def test_what_nobody_wishes_may_be_lost(self):
        self.assertIsNone(fault(wish([None, (1, 0)]), (1, 0)))
        self.assertIsNone(fault(wish([(0, 1), (0, 1)]), (1, 0)))
        self.assertIsNone(fault(wish([(1, 1), (2, 2)]), (0, 1)))
        self.assertIsNone(fault(wish([(0, 0), (0, 0)]), (0, 1)))

    def test_the_kinds(self):
        for told in (fault(TURN, (0, 1, 2)), fault(TURN, ()), fault(wish([None], (0,)), (0,))):
            self.assertEqual((type(told), type(told[0]), type(told[1])), (tuple, str, int))
        self.assertIs(type(fault(TURN, (0, 1, 2))[2]), tuple)

    def test_all_short_orders_of_small_wishes(self):
        for a_wish in list(small_wishes()) + threes():
            for order in orders_of(len(a_wish.rows) + a_wish.spare, 3):
                found = faults_of(a_wish, singly(order))
                self.assertEqual(fault(a_wish, order), found[0] if found else None, (a_wish.rows, order))
                self.assertEqual(fault(a_wish, order) is None, is_good(a_wish, singly(order)))

    def test_no_order(self):
        for order in no_orders(2):
            with self.assertRaises(NoOrder):
                fault(SWAP, order)


class IsFaultTest(unittest.TestCase):

    def test_faults_that_are_not_the_first(self):
        locked = wish([(0, 1, 0), (1, 0, 0), (0, 0, 1)], (0, 2))
        self.assertIs(is_fault(locked, (1, 2, 1, 0), ("locked", 1)), True)
        self.assertIs(is_fault(locked, (1, 2, 1, 0), ("locked", 3)), True)
        self.assertIs(is_fault(locked, (1, 2, 1, 0), ("locked", 0)), False)
        self.assertIs(is_fault(TURN, (), ("never", 2)), True)
        self.assertIs(is_fault(TURN, (2,), ("never", 2)), False)
        self.assertIs(is_fault(TURN, (0, 1, 2), ("moment", 2, (2,))), True)
        self.assertIs(is_fault(TURN, (0, 1, 2), ("moment", 3, (2,))), False)
        less = wish([(0, 1, 0), (1, 1, 0), (1, 0, 0)])
        self.assertIs(is_fault(less, (0, 1, 2), ("moment", 1, (2,))), True)
        self.assertIs(is_fault(less, (0, 1, 2), ("moment", 1, (1,))), True)
        self.assertIs(is_fault(less, (0, 1, 2), ("moment", 1, (0,))), False)

    def test_a_lot_of_another_length(self):
        self.assertIs(is_fault(TWO_SWAPS, (4, 0, 2, 1, 3), ("moment", 3, (1, 3))), True)
        for lot in [(1,), (3,), (), (1, 2), (0, 1), (0, 1, 3), (3, 1), (1, 1)]:
            self.assertIs(is_fault(TWO_SWAPS, (4, 0, 2, 1, 3), ("moment", 3, lot)), False, lot)

    def test_wishes_that_are_not_free_of_one_another(self):
        # Behind 0 alone b is safe. a and 2a are lost, but there is one cell amid, and no two free ones.
        alike = wish([None, (1, 0, 0), (2, 0, 0)])
        self.assertEqual(lack(alike, (0,), 1), (1, 1))
        self.assertIs(is_fault(alike, (0,), ("moment", 1, (1, 2))), False)

    def test_a_lot_with_a_free_or_a_spare_cell(self):
        free = wish([(0, 1, 0), (1, 0, 0), None], (), 1)
        self.assertIs(is_fault(free, (0, 1), ("moment", 1, (1,))), True)
        for lot in [(2,), (3,), (4,)]:
            self.assertIs(is_fault(free, (0, 1), ("moment", 1, lot)), False)
        self.assertIs(is_fault(free, (2, 0, 1), ("moment", 2, (1, 2))), False)

    def test_each_sort_stands_by_itself(self):
        mixed = wish([(0, 1, 0), (1, 0, 0), (1, 1, 1)], (1,))
        self.assertIs(is_fault(mixed, (1, 0), ("locked", 0)), True)
        self.assertIs(is_fault(mixed, (1, 0), ("never", 2)), True)
        self.assertIs(is_fault(mixed, (1, 0), ("moment", 1, (0,))), True)

    def test_a_good_order_has_none(self):
        for thing in [("locked", 0), ("never", 0), ("moment", 1, (1,)), None, (), ("moment", 0, ())]:
            self.assertIs(is_fault(SWAP, (0, 1, 0), thing), False)

    def test_all_faults_of_small_wishes(self):
        for a_wish in list(small_wishes())[::3] + threes():
            many = len(a_wish.rows)
            lots = [lot for size in range(many + 1) for lot in combinations(range(many), size)]
            for order in orders_of(many + a_wish.spare, 2):
                self.check_all(a_wish, order, lots)
        lots = [lot for size in range(4) for lot in combinations(range(3), size)]
        for order in orders_of(3, 4):
            self.check_all(TURN, order, lots)

    def check_all(self, a_wish, order, lots):
        found = faults_of(a_wish, singly(order))
        spots = range(-1, len(order) + 2)
        things = [("locked", at) for at in spots] + [("never", at) for at in range(-1, len(a_wish.rows) + 2)]
        things += [("moment", at, lot) for at in spots for lot in lots]
        for thing in things:
            self.assertIs(is_fault(a_wish, order, thing), thing in found, (a_wish.rows, order, thing))

    def test_words_and_forms(self):
        self.assertIs(is_fault(FAR, (0, 1), ("moment", 1, (1,))), True)
        bad = [("Moment", 1, (1,)), ("moment", 1), ("moment", 1, (1,), 0), ("moment", 1, 1), ("moment", True, (1,)),
               ("moment", 1, (True,)), ("moment", 1, [1]), ["moment", 1, (1,)], ("locked", 1, (1,)), ("never", 1, (1,)),
               (b"moment", 1, (1,)), (("moment",), 1, (1,)), ("moment", (1,), 1), "moment", ("moment",)]
        for thing in bad:
            self.assertIs(is_fault(FAR, (0, 1), thing), False, thing)
        self.assertIs(is_fault(FAR, (), ("never", 0)), True)
        self.assertIs(is_fault(FAR, (), ("never", False)), False)
        self.assertIs(is_fault(FAR, (), ("never", 0, 0)), False)
        self.assertIs(is_fault(FAR, (), ("never",)), False)
        locked = wish([None], (0,))
        self.assertIs(is_fault(locked, (0, 0), ("locked", 1)), True)
        self.assertIs(is_fault(locked, (0, 0), ("locked", True)), False)
        self.assertIs(is_fault(locked, (0, 0), ("never", 0)), False)
        self.assertIs(is_fault(locked, (0, 0), ("locked", -1)), False)
        self.assertIs(is_fault(locked, (0, 0), ("locked", 2)), False)

    def test_odd_things(self):
        cases = [(FAR, (0, 1), ("moment", 1, (1,))), (FAR, (), ("never", 1)), (Wish((None,), (0,), 0), (0,), ("locked", 0))]
        for a_wish, order, right in cases:
            self.assertIs(is_fault(a_wish, order, right), True)
            for thing in spoiled(right):
                self.assertIs(is_fault(a_wish, order, thing), False, thing)
            for thing in odd_things():
                self.assertIs(is_fault(a_wish, order, thing), False, thing)
                self.assertIs(is_fault(a_wish, order, replaced(right, (0,), thing)), False, thing)

    def test_no_order_comes_ahead(self):
        for order in no_orders(2):
            for thing in (("never", 0), None):
                with self.assertRaises(NoOrder):
                    is_fault(SWAP, order, thing)
