"""Point 2.3 as far as making.py tells of it: made, is_made, and the first fact."""

import random
import unittest
from fractions import Fraction

from oncetwice.errors import NoOrder
from oncetwice.making import is_made, made
from oncetwice.orders import fault
from oncetwice.wishes import is_program, makes, standing
from tests.helping import (
    FAR, SWAP, TURN, deep, fulfils, is_good, odd_things, orders_of, part, places, replaced, row, singly,
    small_wishes, spoiled, threes, wish, writing)

SPARE = wish([(0, 1), (1, 0)], (), 1)
THROUGH = (writing(2, 1, 0, 0), writing(0, 0, 1, 0), writing(1, 0, 0, 1))
NO_ORDERS = [(2,), (-1,), (True,), (False, 1), [0, 1], [], 0, (0, None), ((0,),), ("0",), (0,) * 61, deep(0, 36),
             *odd_things()]


class MadeTest(unittest.TestCase):

    def check(self, a_wish, order):
        """Whether made is right of this order; returns what it tells."""
        told = made(a_wish, order)
        if not is_good(a_wish, singly(order)):
            self.assertIsNone(told, (a_wish.rows, order))
            return told
        self.assertIsNotNone(told, (a_wish.rows, order))
        self.assertTrue(is_program(a_wish, told))
        self.assertEqual(tuple(cell for cell, _ in told), order)
        self.assertTrue(fulfils(a_wish, singly(told)), (a_wish.rows, order, told))
        self.assertIs(makes(a_wish, told), True)
        self.assertIs(is_made(a_wish, order, told), True)
        return told

    def test_the_examples(self):
        self.assertIsNotNone(self.check(SWAP, (0, 1, 0)))
        self.assertIsNotNone(self.check(SWAP, (1, 0, 1)))
        self.assertIsNone(self.check(SWAP, (0, 1)))
        self.assertIsNone(self.check(FAR, (0, 1)))
        self.assertEqual(self.check(FAR, (1, 0)), (writing(1, 1, 1), writing(0, -1, 1)))

    def test_all_short_orders_of_small_wishes(self):
        for a_wish in small_wishes():
            for order in orders_of(2 + a_wish.spare, 4 - a_wish.spare):
                self.check(a_wish, order)

    def test_all_short_orders_of_wishes_of_three_cells(self):
        for a_wish in threes():
            for order in orders_of(3 + a_wish.spare, 4):
                self.check(a_wish, order)

    def test_one_cell(self):
        for values in [(0,), (1,), ("-2/7",), None]:
            for locked in [(), (0,)]:
                for spare in (0, 1, 2):
                    for order in orders_of(1 + spare, 3):
                        self.check(wish([values], locked, spare), order)

    def test_no_writing_at_all(self):
        self.assertEqual(made(wish([(1, 0), None], (0, 1), 2), ()), ())
        self.assertIsNone(made(SWAP, ()))

    def test_six_cells_in_rings(self):
        pairs = [unit_values(cell, 6) for cell in (1, 0, 3, 2, 5, 4)]
        self.assertIsNotNone(self.check(wish(pairs), (0, 1, 0, 2, 3, 2, 4, 5, 4)))
        self.assertIsNotNone(self.check(wish(pairs), (0, 2, 4, 1, 3, 5, 0, 2, 4)))
        self.assertIsNone(self.check(wish(pairs), (0, 1, 2, 3, 2, 4, 5, 4)))
        self.assertIsNotNone(self.check(wish(pairs, (), 1), (6, 0, 1, 6, 2, 3, 6, 4, 5)))
        self.assertIsNotNone(self.check(wish(pairs, (), 1), (6, 0, 1, 2, 3, 4, 5)))
        self.assertIsNone(self.check(wish(pairs, (), 1), (6, 0, 2, 1, 3, 4, 5)))
        self.assertIsNotNone(self.check(wish(pairs, (), 2), (6, 7, 0, 2, 1, 3, 7, 4, 5)))

    def test_one_content_that_serves_at_several_moments(self):
        # The spare cell is written once and has to widen what stands safe at many unlike moments.
        turn = wish([unit_values((cell + 1) % 6, 6) for cell in range(6)], (), 1)
        self.assertIsNotNone(self.check(turn, (6, 0, 1, 2, 3, 4, 5)))
        self.assertIsNotNone(self.check(turn, (6, 3, 4, 5, 0, 1, 2)))
        mixed = wish([(1, 2, 0, -1), (0, 1, 1, 3), (2, 0, 1, 0), (1, 1, 1, 1)], (), 2)
        chance = random.Random(3)
        for _ in range(60):
            self.check(mixed, tuple(chance.choice(range(6)) for _ in range(8)) + (0, 1, 2, 3))

    def test_long_orders(self):
        self.assertIsNotNone(self.check(SWAP, (0, 1) * 30))
        self.assertIsNotNone(self.check(TURN, (0, 1, 2) * 20))
        self.assertIsNotNone(self.check(wish([None, (3, 1)], (), 2), (2, 3, 0, 1) * 15))

    def test_broken_and_long_numbers(self):
        chance = random.Random(4)
        for many in (2, 3, 4):
            values = [[Fraction(chance.randrange(-10 ** 30, 10 ** 30), chance.randrange(1, 10 ** 30))
                       for _ in range(many)] for _ in range(many)]
            told = self.check(wish(values, (), 1), tuple(range(many + 1)) * 2 + tuple(range(many)))
            self.assertIsNotNone(told)
            behind = standing(wish(values, (), 1), told)
            self.assertEqual(behind[0], row(*values[0], 0))

    def test_the_order_of_each_program_that_makes_a_wish_is_good(self):
        chance = random.Random(5)
        for _ in range(150):
            many = chance.randrange(1, 4)
            program = tuple(
                writing(chance.randrange(many), *[Fraction(chance.randrange(-2, 3), chance.randrange(1, 3))
                                                  for _ in range(many)])
                for _ in range(chance.randrange(7)))
            blank = wish([None] * many)
            a_wish = wish([[Fraction(*pair) for pair in values] for values in standing(blank, program)])
            order = tuple(cell for cell, _ in program)
            self.assertIs(makes(a_wish, program), True)
            self.assertIsNone(fault(a_wish, order))
            self.assertIsNotNone(self.check(a_wish, order))

    def test_equal_calls_give_equal_answers(self):
        self.assertEqual(made(TURN, (0, 2, 1, 0)), made(TURN, (0, 2, 1, 0)))

    def test_no_order(self):
        for order in NO_ORDERS:
            with self.assertRaises(NoOrder):
                made(SWAP, order)


class IsMadeTest(unittest.TestCase):

    def test_another_program_than_made_tells(self):
        self.assertIs(is_made(SWAP, (0, 1, 0), (writing(0, 1, 1), writing(1, 1, -1), writing(0, 1, -1))), True)
        self.assertIs(is_made(SWAP, (0, 1, 0), (writing(0, 1, -1), writing(1, 1, -1)[:1] + (row(1, 1),),
                                                writing(0, -1, 1))), True)
        self.assertIs(is_made(SPARE, (2, 0, 1), THROUGH), True)
        for times in (1, -7, "3/5"):
            other = (writing(2, times, 0, 0), writing(0, 0, 1, 0), writing(1, 0, 0, 1 / Fraction(times)))
            self.assertIs(is_made(SPARE, (2, 0, 1), other), True)

    def test_another_order(self):
        self.assertIs(is_made(SWAP, (1, 0, 1), (writing(0, 1, 1), writing(1, 1, -1), writing(0, 1, -1))), False)
        keep = wish([(1, 0), (0, 1)])
        self.assertIs(is_made(keep, (), ()), True)
        self.assertIs(is_made(keep, (0,), ()), False)
        self.assertIs(is_made(keep, (), (writing(0, 1, 0),)), False)
        self.assertIs(is_made(keep, (0,), (writing(0, 1, 0),)), True)
        self.assertIs(is_made(keep, (1,), (writing(0, 1, 0),)), False)
        self.assertIs(is_made(keep, (0, 1), (writing(1, 0, 1), writing(0, 1, 0))), False)

    def test_locked_cells(self):
        self.assertIs(is_made(wish([(1, 0), (0, 1)], (1,)), (0,), (writing(0, 1, 0),)), True)
        self.assertIs(is_made(wish([(1, 0), (0, 1)], (0,)), (0,), (writing(0, 1, 0),)), False)

    def test_what_made_tells_with_one_number_changed(self):
        for a_wish, order in [(SWAP, (0, 1, 0)), (TURN, (0, 2, 1, 0)), (FAR, (1, 0)), (SPARE, (2, 0, 1)),
                              (wish([("1/2", 3), None], (), 1), (0, 2, 1, 0))]:
            told = made(a_wish, order)
            seen = []
            for path in places(told):
                if not isinstance(part(told, path), int):
                    continue
                for by in (1, -1):
                    other = replaced(told, path, part(told, path) + by)
                    right = is_program(a_wish, other) and fulfils(a_wish, singly(other))
                    right = right and tuple(cell for cell, _ in other) == order
                    self.assertIs(is_made(a_wish, order, other), right, other)
                    seen.append(right)
            self.assertIn(False, seen)

    def test_what_made_tells_with_one_thing_changed(self):
        for a_wish, order in [(SWAP, (0, 1, 0)), (SPARE, (2, 0, 1))]:
            told = made(a_wish, order)
            self.assertIs(is_made(a_wish, order, told), True)
            for thing in spoiled(told):
                self.assertIs(is_made(a_wish, order, thing), False, thing)
            for at in range(3):
                self.assertIs(is_made(a_wish, order, told[:at] + told[at + 1:]), False)
            self.assertIs(is_made(a_wish, order, told + told[-1:]), False)
            self.assertIs(is_made(a_wish, order, (told,)), False)
            self.assertIs(is_made(a_wish, order, told[::-1]), False)

    def test_an_order_that_is_not_good(self):
        for thing in [None, (), (writing(0, 0, 1), writing(1, 1, 0)), made(SWAP, (0, 1, 0))]:
            self.assertIs(is_made(SWAP, (0, 1), thing), False)

    def test_odd_things(self):
        for thing in odd_things():
            self.assertIs(is_made(SWAP, (0, 1, 0), thing), False, thing)
            self.assertIs(is_made(SWAP, (), thing), False, thing)

    def test_no_order_comes_ahead(self):
        for order in NO_ORDERS:
            for thing in (None, (), made(SWAP, (0, 1, 0))):
                with self.assertRaises(NoOrder):
                    is_made(SWAP, order, thing)


def unit_values(cell, many):
    return [int(place == cell) for place in range(many)]
