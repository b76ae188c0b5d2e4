"""Point 1.1: Wish, BadWish and its parts, equality."""

import unittest

from oncetwice.errors import BadWish, CellError
from oncetwice.wishes import Wish
from tests.helping import FAR, SWAP, odd_numbers, odd_things, replaced, row, wish

ROWS = (row(0, 1), row(1, 0))


class RightWishTest(unittest.TestCase):

    def test_attributes_are_what_was_passed(self):
        made = Wish(ROWS, (1,), 2)
        self.assertEqual((made.rows, made.locked, made.spare), (ROWS, (1,), 2))
        self.assertEqual(list(map(type, (made.rows, made.locked, made.spare))), [tuple, tuple, int])

    def test_from_one_to_six_cells(self):
        for many in range(1, 7):
            rows = (row(*range(many)),) * many
            self.assertEqual(Wish(rows, tuple(range(many)), 0).rows, rows)

    def test_free_cells(self):
        self.assertEqual(Wish((None,), (), 0).rows, (None,))
        self.assertEqual(Wish((None, row(1, 1), None)[:2], (), 0).rows, (None, row(1, 1)))
        self.assertEqual(Wish((None,) * 6, (0, 5), 1).rows, (None,) * 6)

    def test_each_number_of_spare_cells(self):
        for spare in (0, 1, 2):
            self.assertEqual(Wish(ROWS, (), spare).spare, spare)

    def test_numbers_of_any_size_and_sign(self):
        rows = (((-10 ** 29, 3), (7, 10 ** 29)), ((0, 1), (-1, 1)))
        self.assertEqual(Wish(rows, (), 0).rows, rows)

    def test_a_locked_cell_may_have_another_wish(self):
        self.assertEqual(Wish(ROWS, (0, 1), 0).locked, (0, 1))


class BadWishTest(unittest.TestCase):

    def part_of(self, rows, locked, spare):
        with self.assertRaises(BadWish) as caught:
            Wish(rows, locked, spare)
        self.assertIsInstance(caught.exception, CellError)
        self.assertIs(type(caught.exception.part), tuple)
        for item, kind in zip(caught.exception.part, (str, int)):
            self.assertIs(type(item), kind)
        return caught.exception.part

    def test_rows(self):
        seven = (row(0, 0, 0, 0, 0, 0, 0),) * 7
        for rows in [(), seven, (None,) * 7, list(ROWS), 2, "ab", {0: None}, {0: ROWS[0], 1: ROWS[1]}]:
            self.assertEqual(self.part_of(rows, (), 0), ("rows",), rows)

    def test_rows_of_no_kind(self):
        for thing in odd_things():
            expected = ("row", 0) if isinstance(thing, tuple) and len(thing) < 7 else ("rows",)
            self.assertEqual(self.part_of(thing, (), 0), expected, thing)

    def test_the_first_bad_row(self):
        good = row(1, 0, 0)
        self.assertEqual(self.part_of((good, good, row(1, 0)), (), 0), ("row", 2))
        self.assertEqual(self.part_of((good, None, 7), (), 0), ("row", 2))
        self.assertEqual(self.part_of((good, 7, 7), (), 0), ("row", 1))
        self.assertEqual(self.part_of((good, (), 7), (), 0), ("row", 1))
        self.assertEqual(self.part_of((False, None, good), (), 0), ("row", 0))

    def test_rows_too_short_and_too_long(self):
        for bad in [(), row(1), row(1, 0, 0), row(1, 0, 0, 0)]:
            self.assertEqual(self.part_of((row(1, 0), bad), (), 0), ("row", 1), bad)
            self.assertEqual(self.part_of((bad, None), (), 0), ("row", 0), bad)
        self.assertEqual(self.part_of((row(1, 0),), (), 0), ("row", 0))

    def test_lists_for_rows_and_numbers(self):
        self.assertEqual(self.part_of((list(row(0, 1)), row(1, 0)), (), 0), ("row", 0))
        self.assertEqual(self.part_of((row(0, 1), ([1, 1], (0, 1))), (), 0), ("row", 1))

    def test_bad_numbers(self):
        for bad in odd_numbers():
            self.assertEqual(self.part_of((row(0, 1), ((1, 1), bad)), (), 0), ("row", 1), bad)
            self.assertEqual(self.part_of(((bad, (1, 1)), None), (), 0), ("row", 0), bad)

    def test_odd_rows(self):
        for thing in odd_things()[1:]:
            self.assertEqual(self.part_of((row(1, 0), thing), (), 0), ("row", 1), thing)

    def test_locked(self):
        bad = [(1, 0), (0, 0), (1, 1), (2,), (-1,), (0, 2), (0, 1, 2), (True,), (False,), (0, True), [0], [],
               0, (0, None), ("0",), ((0,),), (0, 1, 1)]
        for locked in bad + odd_things():
            self.assertEqual(self.part_of(ROWS, locked, 0), ("locked",), locked)

    def test_no_spare_cell_is_locked(self):
        self.assertEqual(self.part_of(ROWS, (2,), 1), ("locked",))

    def test_spare(self):
        for spare in [-1, 3, 10 ** 20, -10 ** 20, (1,), "1", (), *odd_things()]:
            self.assertEqual(self.part_of(ROWS, (), spare), ("spare",), spare)

    def test_the_first_one_that_is_due(self):
        self.assertEqual(self.part_of((), (9,), 9), ("rows",))
        self.assertEqual(self.part_of((row(1, 0), row(1)), (9,), 9), ("row", 1))
        self.assertEqual(self.part_of(ROWS, (9,), 9), ("locked",))
        self.assertEqual(self.part_of(ROWS, (1,), 9), ("spare",))


class EqualWishTest(unittest.TestCase):

    def test_equal_if_all_attributes_are(self):
        self.assertTrue(wish([(0, 1), (1, 0)]) == SWAP)
        self.assertFalse(wish([(0, 1), (1, 0)]) != SWAP)
        self.assertTrue(Wish(ROWS, (0,), 1) == Wish(tuple(list(ROWS)), (0,), 1))

    def test_unequal_if_one_differs(self):
        base = Wish(ROWS, (0,), 1)
        others = [Wish(ROWS, (0,), 0), Wish(ROWS, (), 1), Wish(ROWS, (1,), 1), Wish((ROWS[0], None), (0,), 1),
                  Wish(replaced(ROWS, (0, 0), (2, 1)), (0,), 1), Wish((ROWS[0], ROWS[0]), (0,), 1)]
        for other in others:
            self.assertTrue(base != other)
            self.assertFalse(base == other)
            self.assertFalse(other == base)
        self.assertFalse(SWAP == FAR)

    def test_unequal_to_anything_of_another_kind(self):
        class Alike:
            rows, locked, spare = SWAP.rows, SWAP.locked, SWAP.spare

        base = wish([(0, 1), (1, 1)], (1,), 2)
        for thing in odd_things() + [ROWS, (ROWS, (), 0), (base.rows, base.locked, base.spare), Alike()]:
            self.assertFalse(base == thing)
            self.assertTrue(base != thing)
        self.assertFalse(SWAP == Alike())
