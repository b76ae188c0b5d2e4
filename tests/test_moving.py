"""Point 4.2: moved, rings, moves, and the fifth fact."""

import unittest
from itertools import permutations, product

from oncetwice.errors import NoNumber, NoSources
from oncetwice.fewest import fewest
from oncetwice.moving import moved, moves, rings
from oncetwice.wishes import Wish
from tests.helping import SWAP, TURN, deep, odd_things, wish, with_spare

NO_SOURCES = [
    (), (1,), (-1,), (0, 2), (0, -1), (True,), (0, False), (0, None), (0, "1"), ((0,),), (0, (1,)), [0], [1, 0],
    (0,) * 7, (0,) * 20000, (10 ** 29, 0), 0, "0", b"0", range(1), {0: 0}, deep(0, 36), *odd_things()]
NO_SPARE = [-1, 3, 10 ** 29, (1,), [1], "1", b"1", *odd_things()]
SIXES = [(1, 2, 3, 4, 5, 0), (1, 0, 3, 2, 5, 4), (1, 2, 0, 4, 5, 3), (1, 0, 3, 2, 4, 5), (1, 0, 3, 2, 0, 0),
         (1, 0, 3, 2, 5, 5), (1, 0, 3, 2, 5, 0), (1, 2, 0, 0, 3, 5), (5, 5, 5, 5, 5, 5), (1, 1, 2, 2, 3, 3)]


def all_sources(cells):
    return product(range(cells), repeat=cells)


def rings_of(sources):
    """What rings is to tell, from point 4.2: each tuple of unlike cells is tried."""
    cells = range(len(sources))
    return [ring for size in range(2, len(sources) + 1) for ring in permutations(cells, size)
            if ring[0] == min(ring) and all(sources[one] == other for one, other in zip(ring, ring[1:] + ring[:1]))]


class MovedTest(unittest.TestCase):

    def test_by_hand(self):
        self.assertEqual(moved((1, 0)), SWAP)
        self.assertEqual(moved((1, 2, 0)), TURN)
        self.assertEqual(moved((0,)), wish([(1,)]))
        self.assertEqual(moved((2, 2, 1)), wish([(0, 0, 1), (0, 0, 1), (0, 1, 0)]))
        self.assertEqual(moved((5,) * 6), wish([(0, 0, 0, 0, 0, 1)] * 6))
        self.assertIs(type(moved((0,))), Wish)

    def test_no_sources(self):
        for sources in NO_SOURCES:
            with self.assertRaises(NoSources):
                moved(sources)


class RingsTest(unittest.TestCase):

    def test_by_hand(self):
        self.assertEqual(rings((0,)), [])
        self.assertEqual(rings((0, 1, 2)), [])
        self.assertEqual(rings((1, 2, 0)), [(0, 1, 2)])
        self.assertEqual(rings((2, 0, 1)), [(0, 2, 1)])
        self.assertEqual(rings((3, 2, 1, 0)), [(0, 3), (1, 2)])
        self.assertEqual(rings((1, 0, 0)), [(0, 1)])
        self.assertEqual(rings((1, 1, 1)), [])
        self.assertEqual(rings((1, 2, 1)), [(1, 2)])
        self.assertEqual(rings((3, 0, 4, 0, 5, 2)), [(0, 3), (2, 4, 5)])

    def test_all_of_up_to_five_cells(self):
        for cells in range(1, 6):
            for sources in all_sources(cells):
                self.assertEqual(rings(sources), sorted(rings_of(sources)), sources)

    def test_a_new_list_of_tuples(self):
        told = rings((1, 0, 3, 2))
        self.assertEqual([type(thing) for thing in (told, *told)], [list, tuple, tuple])
        told.append(None)
        self.assertEqual(rings((1, 0, 3, 2)), [(0, 1), (2, 3)])

    def test_no_sources(self):
        for sources in NO_SOURCES:
            with self.assertRaises(NoSources):
                rings(sources)


class MovesTest(unittest.TestCase):

    def test_the_examples(self):
        self.assertEqual(moves((1, 2, 0), 0), 4)
        self.assertEqual([moves((1, 0, 3, 2), spare) for spare in range(3)], [6, 5, 5])
        self.assertEqual(moves((1, 0, 0), 0), 3)

    def test_rings_with_cells_outside_that_want_what_they_hold(self):
        # Cell 2 may hold what cell 0 held while both others are written: this ring is not closed.
        self.assertEqual([moves((1, 0, 0), spare) for spare in range(3)], [3, 3, 3])
        # The first ring is open so, the second one is closed; and cell 4 is free to help it.
        self.assertEqual([moves((1, 0, 3, 2, 0), spare) for spare in range(3)], [6, 6, 6])
        self.assertEqual([moves((1, 0, 3, 2, 0, 2), spare) for spare in range(3)], [6, 6, 6])
        # Cell 4 keeps: each ring needs one writing more, or all of them one spare cell.
        self.assertEqual([moves((1, 0, 3, 2, 4), spare) for spare in range(3)], [6, 5, 5])
        # A ring may want nothing of the others, but they all stand in need of one another.
        self.assertEqual([moves((1, 0, 3, 2, 5, 5), spare) for spare in range(3)], [6, 6, 6])

    def test_nothing_moves_or_all_take_from_one(self):
        for cells in range(1, 7):
            for spare in range(3):
                self.assertEqual(moves(tuple(range(cells)), spare), 0)
                self.assertEqual(moves((0,) * cells, spare), cells - 1)
                self.assertEqual(moves((cells - 1,) * cells, spare), cells - 1)

    def test_fewest_tells_the_same(self):
        for cells in range(1, 5):
            for sources in all_sources(cells):
                for spare in range(3):
                    a_wish = with_spare(moved(sources), spare)
                    self.assertEqual(moves(sources, spare), fewest(a_wish), (sources, spare))

    def test_fewest_tells_the_same_of_six_cells(self):
        for sources in SIXES:
            for spare in range(3):
                a_wish = with_spare(moved(sources), spare)
                self.assertEqual(moves(sources, spare), fewest(a_wish), (sources, spare))

    def test_errors_in_their_order(self):
        for sources in NO_SOURCES:
            for spare in (0, 3, None):
                with self.assertRaises(NoSources):
                    moves(sources, spare)
        for spare in NO_SPARE:
            for sources in [(1, 0), (0,), (1, 1)]:
                with self.assertRaises(NoNumber):
                    moves(sources, spare)
        self.assertIs(type(moves((1, 0), 2)), int)


if __name__ == "__main__":
    unittest.main()
