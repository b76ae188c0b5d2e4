"""Point 4.1: is_onto, undone, behind, beside, and the fourth fact."""

import unittest
from fractions import Fraction
from itertools import product

from oncetwice.errors import NotAlike, NotOnto, NotWhole, TooMany
from oncetwice.fewest import count_shortest, fewest, shortest
from oncetwice.moving import moved
from oncetwice.onto import behind, beside, is_onto, undone
from oncetwice.orders import fault
from oncetwice.wishes import Wish
from tests.helping import (
    FAR, SWAP, TURN, applied, fractions, more_threes, odd_things, onto_wishes, orders_of, rank, small_wishes, threes,
    wish)

BROKEN = wish([("1/2", "-1/3"), (3, -1)], (1,), 2)
CONTENTS = [Fraction(5), Fraction(-7, 3), Fraction(11)]


def onto_of_two():
    """All onto wishes of two cells with multiples -1, 0, 1/2 and 3."""
    for values in product((-1, 0, "1/2", 3), repeat=4):
        a_wish = wish([values[:2], values[2:]])
        if rank([fractions(row) for row in a_wish.rows]) == 2:
            yield a_wish


def no_wishes():
    return [thing for thing in odd_things() if not isinstance(thing, Wish)]


class IsOntoTest(unittest.TestCase):

    def test_by_hand(self):
        for a_wish in [SWAP, FAR, TURN, BROKEN, wish([(1,)]), wish([("-1/9",)]), wish([(1, 0), (0, 1)], (0, 1), 2)]:
            self.assertIs(is_onto(a_wish), True)
        for a_wish in [wish([(0,)]), wish([None]), wish([(1, 0), None]), wish([None, (1, 0)]), wish([(1, 1), (1, 1)]),
                       wish([("1/2", "-1/3"), (3, -2)]), wish([(0, 1), (0, 0)]),
                       wish([(1, 2, 3), (4, 5, 6), (7, 8, 9)])]:
            self.assertIs(is_onto(a_wish), False)

    def test_nearly_the_same_rows(self):
        many = 10 ** 29
        self.assertIs(is_onto(wish([(many, many + 1), (many - 1, many)])), True)
        self.assertIs(is_onto(wish([(many, many + 1), (many * 3, many * 3 + 3)])), False)

    def test_by_rank(self):
        for a_wish in [*small_wishes(), *threes(), *more_threes()]:
            whole = None not in a_wish.rows
            right = whole and rank([fractions(row) for row in a_wish.rows]) == len(a_wish.rows)
            self.assertIs(is_onto(a_wish), right)

    def test_no_wish_is_not_onto(self):
        for thing in no_wishes():
            self.assertIs(is_onto(thing), False)


class UndoneTest(unittest.TestCase):

    def test_the_example(self):
        self.assertEqual(undone(FAR), wish([(-1, 1), (1, 0)]))

    def test_by_hand(self):
        self.assertEqual(undone(SWAP), SWAP)
        self.assertEqual(undone(TURN), wish([(0, 0, 1), (1, 0, 0), (0, 1, 0)]))
        self.assertEqual(undone(wish([("-2/3",)])), wish([("-3/2",)]))
        # x = a/2 - b/3, y = 3a - b: y - 3x = 3a/2, and y - 6x = b.
        self.assertEqual(undone(BROKEN), wish([(-2, "2/3"), (-6, 1)], (1,), 2))

    def test_locked_and_spare_cells_stay(self):
        told = undone(wish([(0, 1, 0), (0, 0, 1), (1, 0, 0)], (0, 2), 1))
        self.assertEqual((told.locked, told.spare), ((0, 2), 1))

    def test_all_is_as_it_was_both_ways_round(self):
        for a_wish in [*onto_of_two(), *onto_wishes(3, 0), BROKEN]:
            back = undone(a_wish)
            contents = CONTENTS[:len(a_wish.rows)]
            self.assertEqual(applied(back, applied(a_wish, contents)), contents)
            self.assertEqual(applied(a_wish, applied(back, contents)), contents)
            self.assertEqual(undone(back), a_wish)

    def test_not_onto(self):
        for a_wish in [wish([(0,)]), wish([None]), wish([(1, 0), None]), wish([(1, 1), (2, 2)], (0,), 2), *no_wishes()]:
            with self.assertRaises(NotOnto):
                undone(a_wish)


class BehindTest(unittest.TestCase):

    def test_by_hand(self):
        # FAR makes b and a + b of a and b: done once more a + b and a + 2b.
        self.assertEqual(behind(FAR, FAR), wish([(1, 1), (1, 2)]))
        self.assertEqual(behind(SWAP, FAR), wish([(1, 0), (1, 1)]))
        self.assertEqual(behind(FAR, SWAP), wish([(1, 1), (0, 1)]))
        self.assertEqual(behind(wish([("1/2",)]), wish([("-4/3",)])), wish([("-2/3",)]))
        self.assertEqual(behind(wish([(1, -1), (0, 0)]), wish([(2, 5), ("1/2", 0)])), wish([(2, -2), ("1/2", "-1/2")]))

    def test_locked_and_spare_cells_of_the_first_one(self):
        one = wish([(0, 1), (1, 0)], (1,), 2)
        self.assertEqual(behind(one, SWAP), wish([(1, 0), (0, 1)], (1,), 2))
        self.assertEqual(behind(SWAP, one), wish([(1, 0), (0, 1)]))

    def test_a_free_cell_of_the_other_one_is_free(self):
        self.assertEqual(behind(FAR, wish([None, (1, 0)])), wish([None, (0, 1)]))
        self.assertEqual(behind(FAR, wish([None, None])), wish([None, None]))

    def test_one_then_the_other(self):
        whole = [a_wish for a_wish in [*threes(), *more_threes()] if None not in a_wish.rows]
        for one, other in product(whole, repeat=2):
            both = behind(one, other)
            self.assertEqual(applied(both, CONTENTS), applied(other, applied(one, CONTENTS)))
            self.assertEqual((both.locked, both.spare), (one.locked, one.spare))

    def test_a_wish_and_what_takes_it_back(self):
        for a_wish in onto_of_two():
            self.assertEqual(behind(a_wish, undone(a_wish)), wish([(1, 0), (0, 1)]))
            self.assertEqual(behind(undone(a_wish), a_wish), wish([(1, 0), (0, 1)]))

    def test_errors_in_their_order(self):
        free = wish([None, (1, 0)])
        with self.assertRaises(NotWhole):
            behind(free, SWAP)
        with self.assertRaises(NotWhole):
            behind(free, free)
        for one, other in [(SWAP, TURN), (TURN, SWAP), (free, TURN), (TURN, free), (wish([(1,)], (), 1), SWAP)]:
            with self.assertRaises(NotAlike):
                behind(one, other)
        for thing in no_wishes():
            for one, other in [(thing, SWAP), (SWAP, thing), (thing, thing), (free, thing)]:
                with self.assertRaises(NotAlike):
                    behind(one, other)


class BesideTest(unittest.TestCase):

    def test_by_hand(self):
        self.assertEqual(beside(FAR, wish([("2/3",)])), wish([(0, 1, 0), (1, 1, 0), (0, 0, "2/3")]))
        self.assertEqual(beside(wish([("2/3",)]), FAR), wish([("2/3", 0, 0), (0, 0, 1), (0, 1, 1)]))
        self.assertEqual(beside(SWAP, SWAP), moved((1, 0, 3, 2)))

    def test_locked_spare_and_free_cells(self):
        one, other = wish([(1, 0), None], (1,), 1), wish([None, (1, 1, 0), (0, 0, 1)], (0, 2), 2)
        rows = [(1, 0, 0, 0, 0), None, None, (0, 0, 1, 1, 0), (0, 0, 0, 0, 1)]
        self.assertEqual(beside(one, other), wish(rows, (1, 2, 4), 1))
        rows = [None, (1, 1, 0, 0, 0), (0, 0, 1, 0, 0), (0, 0, 0, 1, 0), None]
        self.assertEqual(beside(other, one), wish(rows, (0, 2, 4), 2))

    def test_each_does_its_own(self):
        whole = [a_wish for a_wish in [*threes(), *more_threes()] if None not in a_wish.rows]
        for one, other in product(whole, repeat=2):
            contents = CONTENTS + [Fraction(1, 7), Fraction(2), Fraction(-3)]
            told = applied(beside(one, other), contents)
            self.assertEqual(told, applied(one, contents[:3]) + applied(other, contents[3:]))

    def test_too_many(self):
        self.assertEqual(len(beside(TURN, TURN).rows), 6)
        for one, other in [(TURN, moved((0, 1, 2, 3))), (moved((0, 1, 2, 3)), TURN), (wish([(1,)]), moved((0,) * 6))]:
            with self.assertRaises(TooMany) as caught:
                beside(one, other)
            self.assertEqual(caught.exception.most, 6)

    def test_no_wishes(self):
        for thing in no_wishes():
            for one, other in [(thing, SWAP), (SWAP, thing), (thing, thing)]:
                with self.assertRaises(TooMany) as caught:
                    beside(one, other)
                self.assertEqual(caught.exception.most, 6)


class FourthFactTest(unittest.TestCase):

    def test_undone_has_as_few_writings(self):
        for a_wish in [*onto_of_two(), *onto_wishes(3, 0)]:
            back = undone(a_wish)
            self.assertEqual(fewest(a_wish), fewest(back))
            self.assertEqual(count_shortest(a_wish), count_shortest(back))

    def test_an_order_read_from_behind_is_good_for_undone(self):
        for a_wish in [FAR, SWAP, TURN, wish([(0, 1, 0), (0, 1, 1), (1, 0, 1)]),
                       wish([(1, 1, 0), (0, "1/2", 0), (0, 3, 1)])]:
            back = undone(a_wish)
            for order in orders_of(len(a_wish.rows), 4):
                self.assertEqual(fault(a_wish, order) is None, fault(back, order[::-1]) is None, order)

    def test_beside_one_another_they_add_up(self):
        for one, other in product([FAR, SWAP, TURN, wish([(2,)])], repeat=2):
            self.assertEqual(fewest(beside(one, other)), fewest(one) + fewest(other))

    def test_at_most_three_halves(self):
        for a_wish in [*onto_of_two(), *onto_wishes(3, 0), beside(SWAP, beside(SWAP, SWAP)), beside(TURN, TURN)]:
            self.assertLessEqual(2 * fewest(a_wish), 3 * len(a_wish.rows))
        self.assertEqual(len(shortest(beside(SWAP, beside(SWAP, SWAP)))), 9)


if __name__ == "__main__":
    unittest.main()
