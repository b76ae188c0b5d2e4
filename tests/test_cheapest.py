"""Point 3.2: cheapest and ladder."""

import unittest

from oncetwice.errors import NoNumber, NoPrices
from oncetwice.fewest import cheapest, fewest, ladder, shortest
from oncetwice.moving import moved
from tests.helping import (
    FAR, SWAP, TURN, deep, has_way, judge, more_threes, odd_things, orders_of, singly, small_wishes, threes, wish,
    with_spare)

PAIRS = wish([(0, 1, 0, 0), (1, 0, 0, 0), (0, 0, 0, 1), (0, 0, 1, 0)], (), 1)
LOCKED = wish([(0, 1), (1, 0)], (0,))
NO_PRICES = [
    [1, 1], (1,), (1, 1, 1), (), (0, 1), (1, 0), (1001, 1), (1, 1001), (-1, 1), (True, 1), (1, True), (1, False),
    (1, None), ("1", 1), (1, (1,)), ((1, 1), 1), ((1, 1),), 1, 2, "11", b"11", range(1, 3), {0: 1, 1: 1}, (10 ** 29, 1),
    (1,) * 20000, deep((1, 1), 36), (1, deep(1, 36))]


class CheapestTest(unittest.TestCase):

    def check(self, a_wish, prices, longest):
        """Whether cheapest is right, against all orders of at most this length."""
        good = judge(a_wish)
        cells = len(a_wish.rows) + a_wish.spare
        found = [(sum(prices[cell] for cell in order), order)
                 for order in orders_of(cells, longest) if good(singly(order))]
        told = cheapest(a_wish, prices)
        self.assertEqual(told, min(found, default=None), (a_wish.rows, prices))

    def test_by_hand(self):
        self.assertEqual(cheapest(SWAP, (1, 1)), (3, (0, 1, 0)))
        self.assertEqual(cheapest(SWAP, (2, 1)), (4, (1, 0, 1)))
        self.assertEqual(cheapest(SWAP, (1, 2)), (4, (0, 1, 0)))
        self.assertEqual(cheapest(FAR, (1000, 1000)), (2000, (1, 0)))
        self.assertEqual(cheapest(wish([(1, 0), None], (), 2), (1, 2, 3, 4)), (0, ()))
        self.assertEqual(cheapest(wish([(2,)], (), 2), (7, 1, 1)), (7, (0,)))

    def test_more_writings_may_be_cheaper_than_the_fewest(self):
        self.assertEqual(cheapest(PAIRS, (1, 1, 1, 1, 1)), (5, (4, 0, 1, 2, 3)))
        self.assertEqual(cheapest(PAIRS, (1, 1, 1, 1, 1000)), (6, (0, 1, 0, 2, 3, 2)))
        self.assertEqual(cheapest(PAIRS, (1, 1, 1, 1, 2)), (6, (0, 1, 0, 2, 3, 2)))
        self.assertEqual(cheapest(PAIRS, (3, 3, 5, 5, 7)), (23, (4, 0, 1, 2, 3)))
        self.assertEqual(cheapest(PAIRS, (3, 3, 5, 5, 8)), (24, (0, 1, 0, 2, 3, 2)))
        self.assertEqual(cheapest(PAIRS, (3, 3, 5, 5, 9)), (24, (0, 1, 0, 2, 3, 2)))

    def test_the_least_order_of_the_least_price(self):
        # The spare cell costs as much as both cells that else are written twice: both ways have one price.
        a_wish = with_spare(PAIRS, 2)
        self.assertEqual(cheapest(a_wish, (1, 1, 1, 1, 2, 2)), (6, (0, 1, 0, 2, 3, 2)))
        self.assertEqual(cheapest(a_wish, (4, 1, 4, 1, 2, 2)), (12, (1, 0, 1, 3, 2, 3)))
        self.assertEqual(cheapest(a_wish, (4, 2, 4, 2, 4, 4)), (16, (1, 0, 1, 3, 2, 3)))
        self.assertEqual(cheapest(a_wish, (2, 2, 2, 2, 3, 3)), (11, (4, 0, 1, 2, 3)))

    def test_alike_prices_tell_the_fewest_and_the_shortest(self):
        for a_wish in threes() + more_threes():
            cells = len(a_wish.rows) + a_wish.spare
            told = cheapest(a_wish, (7,) * cells)
            if not has_way(a_wish):
                self.assertIsNone(told)
            else:
                self.assertEqual(told, (7 * fewest(a_wish), shortest(a_wish)))

    def test_against_all_orders_of_small_wishes(self):
        for a_wish in small_wishes():
            prices = (1, 1, 1) if a_wish.spare else (1, 1)
            for at, price in [(0, 1), (0, 1000), (1, 2), (1, 3)]:
                self.check(a_wish, prices[:at] + (price,) + prices[at + 1:], 4)

    def test_against_all_orders_of_three_cells(self):
        for a_wish in threes() + more_threes():
            cells = len(a_wish.rows) + a_wish.spare
            longest = {3: 6, 4: 5, 5: 4}[cells]
            for prices in [(1, 1000, 1, 1, 1), (1000, 1, 1, 500, 500), (5, 7, 11, 6, 12), (5, 7, 12, 13, 4)]:
                self.check(a_wish, prices[:cells], longest)

    def test_the_kinds(self):
        price, order = cheapest(TURN, (1, 2, 3))
        self.assertEqual((type(price), type(order)), (int, tuple))
        self.assertIs(type(cheapest(TURN, (1, 2, 3))), tuple)
        self.assertIs(cheapest(LOCKED, (1, 1)), None)

    def test_no_prices(self):
        for prices in NO_PRICES + odd_things():
            for a_wish in (SWAP, LOCKED):
                with self.assertRaises(NoPrices):
                    cheapest(a_wish, prices)

    def test_spare_cells_have_prices(self):
        a_wish = with_spare(SWAP, 1)
        self.assertEqual(cheapest(a_wish, (9, 9, 1)), (19, (2, 0, 1)))
        for prices in [(9, 9), (9, 9, 1, 1), (9, 9, 0)]:
            with self.assertRaises(NoPrices):
                cheapest(a_wish, prices)


class LadderTest(unittest.TestCase):

    def test_the_example(self):
        self.assertEqual(ladder(moved((1, 0, 3, 2)), 2), (6, 5, 5))

    def test_by_hand(self):
        self.assertEqual(ladder(SWAP, 0), (3,))
        self.assertEqual(ladder(SWAP, 3), (3, 3, 3, 3))
        self.assertEqual(ladder(moved((1, 0, 3, 2, 5, 4)), 3), (9, 7, 7, 7))
        self.assertEqual(ladder(wish([(1, 0), None], (), 2), 3), (0, 0, 0, 0))

    def test_its_own_spare_cells_count_for_nothing(self):
        for spare in range(3):
            self.assertEqual(ladder(with_spare(PAIRS, spare), 3), (6, 5, 5, 5))

    def test_locked_cells(self):
        self.assertEqual(ladder(LOCKED, 2), (None, None, None))
        self.assertEqual(ladder(LOCKED, 0), (None,))
        self.assertEqual(ladder(wish([(0, 1, 0), (1, 0, 0), None], (2,)), 1), (3, 3))

    def test_it_agrees_with_fewest(self):
        for a_wish in threes() + more_threes() + [PAIRS]:
            for most in range(4):
                told = ladder(a_wish, most)
                self.assertEqual((type(told), len(told)), (tuple, most + 1))
                for spare in range(min(most, 2) + 1):
                    self.assertEqual(told[spare], fewest(with_spare(a_wish, spare)))
            if has_way(a_wish):
                self.assertEqual(sorted(told, reverse=True), list(told))

    def test_no_number(self):
        for most in [-1, 4, 10 ** 29, -10 ** 29, [1], (1,), "1", b"1", *odd_things()]:
            for a_wish in (SWAP, LOCKED):
                with self.assertRaises(NoNumber):
                    ladder(a_wish, most)


if __name__ == "__main__":
    unittest.main()
