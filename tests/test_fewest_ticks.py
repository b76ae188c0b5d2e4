"""Point 3.3 as far as fewest.py tells of it: ticks, timetable, is_timetable."""

import unittest

from oncetwice.errors import NoNumber
from oncetwice.fewest import fewest, is_timetable, ticks, timetable
from oncetwice.making import made_ticks
from tests.helping import (
    FAR, SWAP, TURN, deep, fulfils, has_way, judge, more_threes, odd_things, part, places, replaced, singly,
    small_wishes, spoiled, threes, ticks_of, wish)

TURN_SPARE = wish([(0, 1, 0), (0, 0, 1), (1, 0, 0)], (), 1)
LOCKED = wish([(0, 1), (1, 0)], (0,))
RING = wish([[int(place == (cell + 1) % 6) for place in range(6)] for cell in range(6)])
NO_PORTS = [0, 9, -1, 10 ** 29, (1,), [1], "1", b"1", *odd_things()]


class TicksTest(unittest.TestCase):

    def check(self, a_wish, ports):
        """Whether what is told for so many ports is good, made, and right against all shorter ones."""
        many, told = ticks(a_wish, ports), timetable(a_wish, ports)
        if not has_way(a_wish):
            self.assertEqual((many, told), (None, None))
            return
        good = judge(a_wish)
        self.assertEqual((type(many), type(told), len(told)), (int, tuple, many))
        self.assertTrue(all(type(tick) is tuple and 1 <= len(tick) <= ports for tick in told))
        self.assertTrue(good(told), (a_wish.rows, ports, told))
        self.assertIs(is_timetable(a_wish, ports, told), True)
        self.assertTrue(fulfils(a_wish, made_ticks(a_wish, told)))
        for other in ticks_of(len(a_wish.rows) + a_wish.spare, many - 1):
            if all(len(tick) <= ports for tick in other):
                self.assertFalse(good(other), (a_wish.rows, ports, told, other))

    def test_by_hand(self):
        self.assertEqual(ticks(SWAP, 2), 1)
        self.assertEqual(timetable(SWAP, 2), ((0, 1),))
        self.assertEqual([ticks(SWAP, ports) for ports in range(1, 9)], [3] + [1] * 7)
        self.assertEqual([ticks(TURN, ports) for ports in range(1, 9)], [4, 2] + [1] * 6)
        self.assertEqual([ticks(FAR, ports) for ports in (1, 2)], [2, 1])
        # Six writings and one more: in two ticks of three cells each one cell would have to be in both.
        self.assertEqual([ticks(RING, ports) for ports in range(1, 9)], [7, 4, 3, 2, 2, 1, 1, 1])

    def test_nothing_to_do(self):
        for ports in range(1, 9):
            self.assertEqual((ticks(wish([(1, 0), None]), ports), timetable(wish([(1, 0), None]), ports)), (0, ()))

    def test_locked_cells(self):
        for ports in range(1, 9):
            self.assertEqual((ticks(LOCKED, ports), timetable(LOCKED, ports)), (None, None))
        self.assertEqual(timetable(wish([(0, 1), None], (1,)), 8), ((0,),))

    def test_small_wishes_against_all_shorter_timetables(self):
        for a_wish in small_wishes():
            for ports in (1, 2, 3):
                self.check(a_wish, ports)

    def test_wishes_of_three_cells_against_all_shorter_timetables(self):
        for a_wish in threes() + more_threes():
            for ports in (1, 2, 3, 4, 8):
                self.check(a_wish, ports)

    def test_one_port_agrees_with_fewest(self):
        for a_wish in [*small_wishes(), *threes(), *more_threes(), RING]:
            self.assertEqual(ticks(a_wish, 1), fewest(a_wish))

    def test_more_ports_never_need_more_ticks(self):
        for a_wish in threes() + more_threes() + [RING]:
            if has_way(a_wish):
                told = [ticks(a_wish, ports) for ports in range(1, 9)]
                self.assertEqual(sorted(told, reverse=True), told)

    def test_no_number(self):
        for ports in NO_PORTS:
            for a_wish in (SWAP, LOCKED):
                with self.assertRaises(NoNumber):
                    ticks(a_wish, ports)
                with self.assertRaises(NoNumber):
                    timetable(a_wish, ports)


class IsTimetableTest(unittest.TestCase):

    def test_by_hand(self):
        self.assertIs(is_timetable(SWAP, 2, ((0, 1),)), True)
        self.assertIs(is_timetable(SWAP, 8, ((0, 1),)), True)
        self.assertIs(is_timetable(SWAP, 1, ((0, 1),)), False)
        self.assertIs(is_timetable(SWAP, 1, ((0,), (1,), (0,))), True)
        self.assertIs(is_timetable(SWAP, 1, ((0,), (1,))), False)
        self.assertIs(is_timetable(SWAP, 2, ((0,), (0, 1))), True)
        self.assertIs(is_timetable(SWAP, 2, ()), False)
        self.assertIs(is_timetable(wish([(1, 0), None]), 1, ()), True)
        self.assertIs(is_timetable(LOCKED, 2, ((0, 1),)), False)
        self.assertIs(is_timetable(LOCKED, 2, ((1,),)), False)

    def test_any_length_up_to_sixty_ticks(self):
        for many in (1, 2, 3, 59, 60):
            self.assertIs(is_timetable(SWAP, 2, ((0, 1),) * many), True)
        self.assertIs(is_timetable(SWAP, 1, ((0,), (1,)) * 29 + ((0,),)), True)
        for many in (61, 100, 5000):
            self.assertIs(is_timetable(SWAP, 2, ((0, 1),) * many), False)
            self.assertIs(is_timetable(wish([(1, 0), None]), 2, ((1,),) * many), False)

    def test_all_short_ones(self):
        for a_wish in [SWAP, FAR, LOCKED, TURN, *more_threes()[:3]]:
            good = judge(a_wish)
            for thing in ticks_of(len(a_wish.rows) + a_wish.spare, 2):
                for ports in (1, 2, 3):
                    right = good(thing) and all(len(tick) <= ports for tick in thing)
                    self.assertIs(is_timetable(a_wish, ports, thing), right, thing)

    def test_what_timetable_tells_with_a_tick_left_out_or_told_twice_or_put_together(self):
        for a_wish in [SWAP, TURN, TURN_SPARE, RING]:
            good = judge(a_wish)
            for ports in (1, 2, 3, 4):
                told = timetable(a_wish, ports)
                for at, tick in enumerate(told):
                    less, twice = told[:at] + told[at + 1:], told[:at] + (tick,) + told[at:]
                    self.assertIs(is_timetable(a_wish, ports, less), False, less)
                    self.assertIs(is_timetable(a_wish, ports, twice), good(twice), twice)
                    both = tuple(sorted({cell for two in told[at:at + 2] for cell in two}))
                    joined = told[:at] + (both,) + told[at + 2:]
                    right = good(joined) and len(both) <= ports
                    self.assertIs(is_timetable(a_wish, ports, joined), right, joined)

    def test_a_tick_is_a_lot(self):
        for thing in [((1, 0),), ((0, 0, 1),), ((0, 1), ()), ((), (0, 1)), ([0, 1],), [(0, 1)], (0, 1), (0, 1, 0),
                      ((0, 1), 0), ((False, 1),), ((0, True),), ((0, "1"),), (((0, 1),),), ((0, 1), None)]:
            self.assertIs(is_timetable(SWAP, 8, thing), False, thing)

    def test_cells_beyond(self):
        self.assertIs(is_timetable(SWAP, 8, ((0, 1, 2),)), False)
        self.assertIs(is_timetable(SWAP, 8, ((-1, 0, 1),)), False)
        self.assertIs(is_timetable(TURN, 8, ((0, 3), (1, 2))), False)
        self.assertIs(is_timetable(TURN_SPARE, 8, ((0, 3), (1, 2))), True)
        self.assertIs(is_timetable(TURN_SPARE, 8, ((0, 4), (1, 2))), False)
        self.assertIs(is_timetable(TURN_SPARE, 8, ((0, 10 ** 29), (1, 2))), False)

    def test_odd_things(self):
        for thing in odd_things() + [deep(((0, 1),), 36), (0,) * 20000]:
            self.assertIs(is_timetable(SWAP, 2, thing), False, thing)
        for thing in spoiled(((0, 1),)):
            self.assertIs(is_timetable(SWAP, 2, thing), False, thing)

    def test_with_one_cell_changed(self):
        told = timetable(RING, 3)
        good = judge(RING)
        for path in places(told):
            if isinstance(part(told, path), int):
                for cell in range(7):
                    other = replaced(told, path, cell)
                    right = all(tick == tuple(sorted(set(tick))) for tick in other) and cell < 6 and good(other)
                    self.assertIs(is_timetable(RING, 3, other), right, other)

    def test_no_number_comes_ahead(self):
        for ports in NO_PORTS:
            for thing in (None, (), ((0, 1),), singly((0, 1, 0))):
                with self.assertRaises(NoNumber):
                    is_timetable(SWAP, ports, thing)


if __name__ == "__main__":
    unittest.main()
