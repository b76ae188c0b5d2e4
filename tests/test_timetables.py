"""Point 3.3 as far as making.py tells of it: made_ticks, is_made_ticks, and the third fact."""

import unittest

from oncetwice.errors import NoTimetable
from oncetwice.making import is_made_ticks, made, made_ticks
from tests.helping import (
    FAR, SWAP, TURN, deep, fulfils, is_good, odd_things, orders_of, part, places, replaced, singly, small_wishes,
    spoiled, threes, ticks_of, wish, writing)

TURN_SPARE = wish([(0, 1, 0), (0, 0, 1), (1, 0, 0)], (), 1)
BOTH = ((writing(0, 0, 1), writing(1, 1, 0)),)
NO_TIMETABLES = [
    ((),), ((0,), ()), ((1, 0),), ((0, 0),), ((2,),), ((-1,),), ((0, 1, 2),), ((True,),), ((False, 1),), (0,), (0, 1),
    [(0,)], [], ([0],), 0, ((0,), 0), (("0",),), (((0,),),), ((None,),), ((0,),) * 61, deep(0, 36), ((10 ** 20,),),
    *odd_things()]


class MadeTicksTest(unittest.TestCase):

    def check(self, a_wish, timetable):
        """Whether made_ticks is right of this timetable; returns what it tells."""
        told = made_ticks(a_wish, timetable)
        if not is_good(a_wish, timetable):
            self.assertIsNone(told, (a_wish.rows, timetable))
            return told
        self.assertIsNotNone(told, (a_wish.rows, timetable))
        self.assertIs(type(told), tuple)
        self.assertEqual(tuple(tuple(cell for cell, _ in tick) for tick in told), timetable)
        self.assertTrue(fulfils(a_wish, told), (a_wish.rows, timetable, told))
        self.assertIs(is_made_ticks(a_wish, timetable, told), True)
        return told

    def test_several_cells_at_once(self):
        self.assertEqual(self.check(SWAP, ((0, 1),)), BOTH)
        self.assertIsNotNone(self.check(TURN, ((0, 1, 2),)))
        self.assertEqual(self.check(FAR, ((0, 1),)), ((writing(0, 0, 1), writing(1, 1, 1)),))

    def test_by_and_by(self):
        self.assertIsNone(self.check(SWAP, ((0,), (1,))))
        self.assertIsNotNone(self.check(SWAP, ((0,), (0, 1))))
        self.assertIsNotNone(self.check(SWAP, ((0,), (1,), (0,))))
        self.assertIsNone(self.check(TURN, ((0, 1), (2,))))
        self.assertIsNone(self.check(TURN, ((0, 1), (0, 2))))
        self.assertIsNotNone(self.check(TURN, ((0, 1), (1, 2))))
        self.assertIsNotNone(self.check(TURN_SPARE, ((0, 3), (1, 2))))
        self.assertIsNotNone(self.check(TURN_SPARE, ((0, 1, 3), (2,))))
        self.assertIsNone(self.check(TURN_SPARE, ((0, 1), (2, 3))))

    def test_a_written_cell_is_read_by_the_others_of_its_tick_as_it_was(self):
        # In one tick each cell takes what the next one held, so no spare cell is needed.
        ring = wish([[int(place == (cell + 1) % 6) for place in range(6)] for cell in range(6)])
        told = self.check(ring, ((0, 1, 2, 3, 4, 5),))
        self.assertEqual([multiples.index((1, 1)) for _, multiples in told[0]], [1, 2, 3, 4, 5, 0])
        self.assertIsNone(self.check(ring, ((0, 1, 2), (3, 4, 5))))
        self.assertIsNone(self.check(ring, ((0, 1, 2), (0, 3, 4, 5))))
        self.assertIsNotNone(self.check(ring, ((0, 1, 2), (2, 3, 4, 5))))

    def test_never_written_and_locked_cells(self):
        self.assertIsNone(self.check(SWAP, ((0,),)))
        self.assertIsNone(self.check(SWAP, ()))
        self.assertIsNone(self.check(wish([(0, 1), (1, 0)], (1,)), ((0, 1),)))
        self.assertIsNone(self.check(wish([(1, 1), (0, 1)], (1,)), ((0, 1),)))
        self.assertIsNotNone(self.check(wish([(1, 1), (0, 1)], (1,)), ((0,),)))
        self.assertEqual(made_ticks(wish([(1, 0), None], (), 1), ()), ())

    def test_all_short_timetables_of_small_wishes(self):
        for a_wish in small_wishes():
            for timetable in ticks_of(2 + a_wish.spare, 3 - a_wish.spare):
                self.check(a_wish, timetable)

    def test_all_short_timetables_of_wishes_of_three_cells(self):
        for a_wish in threes():
            for timetable in ticks_of(3 + a_wish.spare, 2):
                self.check(a_wish, timetable)

    def test_ticks_of_one_cell_are_good_as_orders_are(self):
        for a_wish in threes():
            for order in orders_of(3, 3):
                told = self.check(a_wish, singly(order))
                program = made(a_wish, order)
                self.assertEqual(told is None, program is None)

    def test_sixty_ticks(self):
        self.assertIsNotNone(self.check(SWAP, ((0,), (1,)) * 30))
        self.assertIsNotNone(self.check(SWAP, ((0, 1),) * 60))

    def test_broken_numbers(self):
        broken = wish([("1/2", "-1/3", 7), ("22/7", 0, "1/9"), (0, "5/4", "-5/4")], (), 1)
        self.assertIsNotNone(self.check(broken, ((0, 1, 2),)))
        self.assertIsNotNone(self.check(broken, ((0, 3), (1, 3), (0, 2), (1,))))
        self.assertIsNotNone(self.check(broken, ((0, 1), (0, 2), (1, 3), (0, 1, 2))))

    def test_no_timetable(self):
        for timetable in NO_TIMETABLES:
            with self.assertRaises(NoTimetable):
                made_ticks(SWAP, timetable)

    def test_spare_cells_stand_in_ticks_if_there_are_any(self):
        with self.assertRaises(NoTimetable):
            made_ticks(TURN_SPARE, ((0, 4),))
        with self.assertRaises(NoTimetable):
            made_ticks(TURN, ((0, 3),))
        self.assertIsNotNone(made_ticks(TURN_SPARE, ((0, 1, 2, 3),)))


class IsMadeTicksTest(unittest.TestCase):

    def test_another_one_than_made_ticks_tells(self):
        one = ((writing(0, 1, 1),), (writing(0, 0, 1), writing(1, 1, -1)))
        other = ((writing(0, -2, 3),), (writing(0, 0, 1), writing(1, "-1/2", "3/2")))
        self.assertIs(is_made_ticks(SWAP, ((0,), (0, 1)), one), True)
        self.assertIs(is_made_ticks(SWAP, ((0,), (0, 1)), other), True)
        self.assertIs(is_made_ticks(SWAP, ((0,), (1,)), one), False)

    def test_the_sums_are_of_what_stood_ahead_of_the_tick(self):
        # Done one after the other these writings would make a + b, not b, of the first cell.
        later = ((writing(0, 1, 1), writing(1, 1, -1)),)
        self.assertIs(is_made_ticks(wish([(1, 1), (1, -1)]), ((0, 1),), later), True)
        self.assertIs(is_made_ticks(wish([(1, 1), (1, 0)]), ((0, 1),), later), False)
        self.assertIs(is_made_ticks(SWAP, ((0, 1),), BOTH), True)

    def test_another_timetable(self):
        single = ((writing(0, 1, 1),), (writing(1, 1, -1),), (writing(0, 1, -1),))
        self.assertIs(is_made_ticks(SWAP, ((0,), (1,), (0,)), single), True)
        self.assertIs(is_made_ticks(SWAP, ((1,), (0,), (1,)), single), False)
        self.assertIs(is_made_ticks(SWAP, ((0,), (1,)), single), False)
        self.assertIs(is_made_ticks(SWAP, ((0,), (1,), (0,), (0,)), single), False)
        self.assertIs(is_made_ticks(SWAP, ((0,), (0, 1)), single), False)
        self.assertIs(is_made_ticks(SWAP, ((0, 1),), (BOTH[0][::-1],)), False)
        self.assertIs(is_made_ticks(SWAP, ((0, 1),), BOTH[0]), False)
        self.assertIs(is_made_ticks(wish([(1, 0), None]), (), ()), True)
        self.assertIs(is_made_ticks(wish([(1, 0), None]), ((0,),), ((writing(0, 1, 0),),)), True)
        self.assertIs(is_made_ticks(wish([(1, 0), None], (0,)), ((0,),), ((writing(0, 1, 0),),)), False)
        self.assertIs(is_made_ticks(wish([(1, 0), None]), ((0, 1),), ((writing(0, 1, 0),),)), False)

    def test_what_made_ticks_tells_with_one_number_changed(self):
        for a_wish, timetable in [(SWAP, ((0, 1),)), (SWAP, ((0,), (0, 1))), (TURN, ((0, 1), (1, 2))),
                                  (TURN_SPARE, ((0, 3), (1, 2)))]:
            told = made_ticks(a_wish, timetable)
            seen = []
            for path in places(told):
                if not isinstance(part(told, path), int):
                    continue
                for by in (1, -1):
                    other = replaced(told, path, part(told, path) + by)
                    right = is_right(a_wish, other, path)
                    self.assertIs(is_made_ticks(a_wish, timetable, other), right, other)
                    seen.append(right)
            self.assertIn(False, seen)

    def test_what_made_ticks_tells_with_one_thing_changed(self):
        for a_wish, timetable in [(SWAP, ((0, 1),)), (SWAP, ((0,), (0, 1)))]:
            told = made_ticks(a_wish, timetable)
            for thing in spoiled(told):
                self.assertIs(is_made_ticks(a_wish, timetable, thing), False, thing)
            self.assertIs(is_made_ticks(a_wish, timetable, told[1:]), False)
            self.assertIs(is_made_ticks(a_wish, timetable, told + told[-1:]), False)
            self.assertIs(is_made_ticks(a_wish, timetable, told + ((),)), False)
            self.assertIs(is_made_ticks(a_wish, timetable, (told,)), False)

    def test_a_timetable_that_is_not_good(self):
        for thing in [None, (), ((writing(0, 0, 1),), (writing(1, 1, 0),)), BOTH]:
            self.assertIs(is_made_ticks(SWAP, ((0,), (1,)), thing), False)

    def test_odd_things(self):
        for thing in odd_things():
            self.assertIs(is_made_ticks(SWAP, ((0, 1),), thing), False, thing)
            self.assertIs(is_made_ticks(SWAP, (), thing), False, thing)

    def test_no_timetable_comes_ahead(self):
        for timetable in NO_TIMETABLES:
            for thing in (None, (), BOTH):
                with self.assertRaises(NoTimetable):
                    is_made_ticks(SWAP, timetable, thing)


def is_right(a_wish, ticks, path):
    """Whether writings of which one number, at a path, was changed still make the wish.

    The path of a cell has three parts: another cell is never of the timetable.
    """
    if len(path) == 3:
        return False
    top, bottom = part(ticks, path[:4])
    if bottom < 1 or any(top % by == 0 and bottom % by == 0 for by in range(2, abs(top) + bottom + 1)):
        return False
    return fulfils(a_wish, ticks)
