"""Point 3.1: fewest, shortest, count_shortest, and the second fact."""

import unittest
from itertools import product

from oncetwice.fewest import count_shortest, fewest, shortest
from oncetwice.making import made
from tests.helping import (
    FAR, SWAP, TURN, fulfils, has_way, judge, more_threes, singly, some_wishes, threes, wish, with_spare)

LONGEST = 4
PAIRS = [(0, 1, 0, 0), (1, 0, 0, 0), (0, 0, 0, 1), (0, 0, 1, 0)]
THREE_PAIRS = [[int(place == cell + 1 - 2 * (cell % 2)) for place in range(6)] for cell in range(6)]


def all_good(a_wish, length):
    """The list of all good orders of this length, ascending."""
    good = judge(a_wish)
    cells = len(a_wish.rows) + a_wish.spare
    return [order for order in product(range(cells), repeat=length) if good(singly(order))]


class FewestTest(unittest.TestCase):

    def check(self, a_wish, many, order, count):
        self.assertEqual((fewest(a_wish), shortest(a_wish), count_shortest(a_wish)), (many, order, count))

    def test_the_examples(self):
        self.assertEqual((fewest(SWAP), shortest(SWAP)), (3, (0, 1, 0)))
        self.assertEqual((fewest(FAR), shortest(FAR)), (2, (1, 0)))
        self.assertEqual(count_shortest(SWAP), 2)

    def test_by_hand(self):
        self.check(FAR, 2, (1, 0), 1)
        # A turn of three, a b c to b c a: with the sum of all in cell 0 the cells 2 and 1 get a and c, cell 0 then b.
        # Cell 1 can't be second: behind it c would stand twice, in it and in cell 2, and a and b in one cell.
        self.check(TURN, 4, (0, 2, 1, 0), 3)
        self.check(wish([(1,)]), 0, (), 1)
        self.check(wish([(2,)]), 1, (0,), 1)
        self.check(wish([(0,)], (), 2), 1, (0,), 1)
        self.check(wish([None, None], (), 2), 0, (), 1)
        self.check(wish([(1, 0), (0, 1)], (0, 1)), 0, (), 1)

    def test_all_multiples_of_one_row_need_nothing_twice(self):
        self.check(wish([(1, 1, 1)] * 3), 3, (0, 1, 2), 6)
        self.check(wish([(0, 0), (0, 0)]), 2, (0, 1), 2)

    def test_broken_multiples(self):
        # The second row is six times the first one, so cell 1 may take it from there, and the other way round.
        self.check(wish([("1/2", "-1/3"), (3, -2)]), 2, (0, 1), 2)
        self.check(wish([("1/2", "-1/3"), (3, -1)]), 2, (0, 1), 2)
        self.check(wish([(0, "2/3"), ("5/7", 0)]), 3, (0, 1, 0), 2)

    def test_a_wish_that_only_nearly_is_a_multiple(self):
        many = 10 ** 29
        self.check(wish([(many, many + 1), (many - 1, many)]), 2, (0, 1), 2)
        self.check(wish([(0, many), (many, 1)]), 2, (1, 0), 1)
        self.check(wish([(0, many), (many, 0)]), 3, (0, 1, 0), 2)

    def test_a_spare_cell(self):
        two_pairs = wish(PAIRS)
        self.assertEqual([fewest(with_spare(two_pairs, spare)) for spare in range(3)], [6, 5, 5])
        self.assertEqual(shortest(with_spare(two_pairs, 1)), (4, 0, 1, 2, 3))
        self.assertEqual(fewest(with_spare(SWAP, 2)), 3)

    def test_the_number_of_shortest_orders_of_three_exchanges(self):
        # Each has two orders of its own, and they may be mixed: 9! / (3! * 3! * 3!) * 2 * 2 * 2.
        self.check(wish(THREE_PAIRS), 9, (0, 1, 0, 2, 3, 2, 4, 5, 4), 13440)
        # A spare cell with the sum of what three of them hold serves all three.
        self.assertEqual(fewest(with_spare(wish(THREE_PAIRS), 1)), 7)

    def test_a_cell_that_keeps_is_worth_nothing(self):
        # It would have to be written twice itself.
        self.check(wish([(0, 1, 0), (1, 0, 0), (0, 0, 1)]), 3, (0, 1, 0), 2)

    def test_a_free_cell_serves_as_a_spare_one(self):
        self.check(wish([(0, 1, 0), (1, 0, 0), None]), 3, (0, 1, 0), 4)
        self.check(wish([(0, 1, 0), (1, 0, 0), None], (2,)), 3, (0, 1, 0), 2)

    def test_locked_cells(self):
        self.check(wish([(0, 1), (1, 0)], (0,)), None, None, 0)
        self.check(wish([(0, 1), None], (0,)), None, None, 0)
        self.check(wish([(0, 1), None], (1,)), 1, (0,), 1)
        self.check(wish([(2,)], (0,), 2), None, None, 0)
        self.check(wish([(1, 0), (1, 1)], (0,)), 1, (1,), 1)

    def test_against_all_orders_of_each_length(self):
        for a_wish in some_wishes():
            for length in range(LONGEST + 1):
                found = all_good(a_wish, length)
                if found:
                    self.check(a_wish, length, found[0], len(found))
                    break
            else:
                self.check(a_wish, None, None, 0)

    def test_there_is_none_exactly_if_a_locked_cell_has_a_wish_and_does_not_keep(self):
        for a_wish in some_wishes():
            self.assertEqual(fewest(a_wish) is not None, has_way(a_wish))
            self.assertEqual(shortest(a_wish) is not None, has_way(a_wish))
            self.assertEqual(count_shortest(a_wish) > 0, has_way(a_wish))

    def test_no_cell_with_a_wish_more_than_twice_and_no_other_one_more_than_once(self):
        for a_wish in threes() + more_threes():
            if not has_way(a_wish):
                continue
            for order in all_good(a_wish, fewest(a_wish)):
                for cell in order:
                    has_wish = cell < len(a_wish.rows) and a_wish.rows[cell] is not None
                    self.assertLessEqual(order.count(cell), 2 if has_wish else 1)

    def test_the_shortest_order_is_made(self):
        for a_wish in threes() + more_threes() + [wish(THREE_PAIRS), wish(PAIRS, (), 1)]:
            if has_way(a_wish):
                program = made(a_wish, shortest(a_wish))
                self.assertTrue(fulfils(a_wish, singly(program)))

    def test_the_kinds(self):
        self.assertEqual([type(thing) for thing in (fewest(SWAP), shortest(SWAP), count_shortest(SWAP))],
                         [int, tuple, int])
        self.assertEqual([type(cell) for cell in shortest(SWAP)], [int] * 3)
        self.assertIs(fewest(wish([(2,)], (0,))), None)
        self.assertEqual(shortest(SWAP), shortest(SWAP))


if __name__ == "__main__":
    unittest.main()
