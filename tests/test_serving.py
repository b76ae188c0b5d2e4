"""Point 4.3: serves_all, beaten, and the sixth fact."""

import unittest

from oncetwice.errors import NoNumber, NoOrder
from oncetwice.onto import beaten, is_onto, serves_all
from oncetwice.orders import fault
from oncetwice.wishes import Wish
from tests.helping import deep, judge, odd_things, onto_wishes, orders_of, singly, wish

NO_CELLS = [0, 7, -1, 10 ** 29, (1,), [1], "1", b"1", *odd_things()]
NO_SPARE = [-1, 3, 10 ** 29, (1,), [1], "1", b"1", *odd_things()]
NO_ORDERS = [(2,), (-1,), (0, 1, 2), (0,) * 61, (True,), (False, 1), (0, None), ("0",), ((0,),), [0, 1, 0], [], 0,
             (10 ** 29,), deep(0, 36), (0,) * 20000, *odd_things()]


class ServesAllTest(unittest.TestCase):

    def check(self, cells, spare, order):
        """Whether both are right of this order; returns whether it serves all."""
        serves, told = serves_all(cells, spare, order), beaten(cells, spare, order)
        self.assertIs(serves, told is None)
        if told is not None:
            self.assertIs(type(told), Wish)
            self.assertEqual((len(told.rows), told.locked, told.spare), (cells, (), spare))
            self.assertIs(is_onto(told), True)
            self.assertIsNotNone(fault(told, order))
            self.assertFalse(judge(told)(singly(order)), (cells, spare, order))
        return serves

    def check_all(self, cells, spare, longest):
        """Whether both are right of all short orders; returns how many of each length serve all."""
        judges = [judge(a_wish) for a_wish in onto_wishes(cells, spare)]
        judges.append(judge(wish([[2 * int(at == cell) for at in range(cells)] for cell in range(cells)], (), spare)))
        counts = [0] * (longest + 1)
        for order in orders_of(cells + spare, longest):
            right = self.check(cells, spare, order)
            self.assertIs(right, all(good(singly(order)) for good in judges), order)
            counts[len(order)] += right
        return counts

    def test_the_example(self):
        self.assertIs(serves_all(2, 0, (0, 1, 0)), True)
        self.assertIs(serves_all(3, 0, (0, 1, 2, 0)), False)

    def test_by_hand(self):
        self.assertIs(serves_all(1, 0, (0,)), True)
        self.assertIs(serves_all(1, 2, ()), False)
        self.assertIs(serves_all(2, 0, (0, 1)), False)
        self.assertIs(serves_all(2, 1, (2, 0, 1)), True)
        self.assertIs(serves_all(2, 1, (0, 2, 1)), False)
        self.assertIs(serves_all(2, 1, (0, 1, 2)), False)
        self.assertIs(serves_all(3, 0, (0, 1, 2, 1, 0)), True)
        self.assertIs(serves_all(3, 0, (0, 1, 2, 0, 1)), True)
        self.assertIs(serves_all(3, 1, (3, 2, 1, 0)), True)
        self.assertIs(serves_all(3, 2, (3, 2, 1)), False)
        self.assertIs(serves_all(4, 1, (4, 0, 1, 2, 3)), False)
        self.assertIs(serves_all(4, 1, (4, 0, 1, 2, 3, 1)), True)
        self.assertIs(serves_all(4, 2, (4, 0, 5, 1, 2, 3)), True)
        self.assertIs(serves_all(5, 2, (4, 6, 5, 0, 1, 2, 3)), False)
        self.assertIs(serves_all(5, 2, (6, 4, 5, 0, 1, 2, 3)), True)
        self.assertIs(serves_all(6, 2, (6, 7, 0, 1, 2, 3, 4, 5)), False)
        self.assertIs(serves_all(6, 2, (6, 7, 0, 1, 2, 3, 4, 5, 2)), True)
        self.assertIs(serves_all(6, 0, (0, 1, 2, 3, 4, 5, 4, 3, 2, 1, 0)), True)
        self.assertIs(serves_all(6, 0, (0, 1, 2, 3, 4, 5, 3, 2, 1, 0)), False)

    def test_one_cell(self):
        self.assertEqual(self.check_all(1, 0, 4), [0, 1, 1, 1, 1])
        self.assertEqual(self.check_all(1, 2, 3)[:2], [0, 1])

    def test_two_cells(self):
        self.assertEqual(self.check_all(2, 0, 5)[:4], [0, 0, 0, 2])
        self.assertEqual(self.check_all(2, 1, 4)[:4], [0, 0, 0, 4])
        self.check_all(2, 2, 3)

    def test_three_cells(self):
        self.assertEqual(self.check_all(3, 0, 5)[:5], [0, 0, 0, 0, 0])
        # The spare cell ahead of all others, or right behind the first one, if this is written again.
        self.assertEqual(self.check_all(3, 1, 4)[4], 6)

    def test_longer_orders(self):
        for cells, spare, order in [(4, 0, (0, 1, 2, 3) * 15), (4, 0, (0, 1) * 30), (6, 2, tuple(range(8)) * 7),
                                    (5, 1, (5, 0, 1, 2, 3, 4, 0, 1)), (6, 1, (6,) * 60), (6, 0, ())]:
            self.check(cells, spare, order)
        self.assertIs(serves_all(4, 0, (0, 1, 2, 3) * 15), True)

    def test_what_beaten_tells_is_new_each_time_and_alike(self):
        self.assertEqual(beaten(3, 0, (0, 1, 2, 0)), beaten(3, 0, (0, 1, 2, 0)))

    def test_errors_in_their_order(self):
        for called in (serves_all, beaten):
            for cells in NO_CELLS:
                for spare, order in [(0, (0,)), (9, (0,)), (None, None)]:
                    with self.assertRaises(NoNumber):
                        called(cells, spare, order)
            for spare in NO_SPARE:
                for order in [(0, 1), (7,), None]:
                    with self.assertRaises(NoNumber):
                        called(2, spare, order)
            for order in NO_ORDERS:
                with self.assertRaises(NoOrder):
                    called(2, 0, order)

    def test_spare_cells_may_stand_in_an_order(self):
        self.assertIs(serves_all(2, 1, (0, 1, 2)), False)
        for order in [(0, 1, 3), (3,)]:
            with self.assertRaises(NoOrder):
                serves_all(2, 1, order)
            with self.assertRaises(NoOrder):
                beaten(2, 1, order)


if __name__ == "__main__":
    unittest.main()
