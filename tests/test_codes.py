"""Point 6.1: Code, BadCode and its parts."""

import random
import unittest

from oncetwice.codes import Code
from oncetwice.errors import BadCode
from tests.coding import CODES, EXAMPLE, at_once, drawn_code, less, same, say
from tests.helping import deep, odd_numbers, odd_things, part, places, replaced, row, spoiled

NO_CELLS = [0, 6, -1, 10 ** 29, (2,), [2], "2", b"2", *odd_things()]
NO_OUTS = [
    (2,), (-1,), (1, 0), (0, 0), (0, 1, 2), (0, 1, 1), (True,), (False, 1), (0, None), ("0",), ((0,),), [0, 1], [], 0, 1,
    "01", b"01", range(2), {0: 1}, (10 ** 29,), (0,) * 20000, deep((0, 1), 36), *odd_things()]
# One of each sort, for a code of two cells and five rows.
ROWS = [
    at_once({0: (0, 1, 0), 1: (1, 1, "1/2")}), at_once({1: ("-2/3", 1, 0)}), say(1, "-1/2", 7),
    less((1, 0, 0), (0, 1, 3), 2), same((1, 0, 0), (0, 1, 3), 5), ("go", 0), ("go", 5), ("call", 4), ("call", 5), ("back",),
]
SUM = row(1, 2, 3)
NO_ROWS = [
    # No word, or another one.
    (), ("set",), ("say",), ("less",), ("same",), ("go",), ("call",), ("", SUM), ("sey", SUM), ("SAY", SUM), ("end",),
    ("back ",), (b"back",), (("back",),), ("go", "back"), "back", "go", ("b", "a", "c", "k"), (None,), (0,), (0, 1),
    # Too short and too long.
    ("set", at_once({0: (0, 1, 0)})[1], 1), ("say", SUM, SUM), ("say", SUM, 0), ("less", SUM, SUM), ("less", SUM, 1),
    ("less", SUM, SUM, 1, 1), ("same", SUM, SUM), ("same", SUM, SUM, SUM), ("same", SUM, SUM, 1, 2), ("go", 1, 1),
    ("call", 1, 1), ("call", SUM), ("back", 0), ("back", ()), ("go", SUM),
    # Sets of no cell, of cells beyond, that do not ascend, that are no pairs.
    ("set", ()), ("set", SUM), ("set", (0, SUM)), ("set", ((2, SUM),)), ("set", ((-1, SUM),)), ("set", ((0, SUM), (2, SUM))),
    ("set", ((0, SUM), (0, SUM))), ("set", ((1, SUM), (0, SUM))), ("set", ((0, SUM), (1, SUM), (1, SUM))), ("set", ((0,),)),
    ("set", ((0, SUM, SUM),)), ("set", ((SUM, 0),)), ("set", ((True, SUM),)), ("set", ((False, SUM),)),
    ("set", ((0, SUM), (True, SUM))), ("set", ((None, SUM),)), ("set", (((0,), SUM),)), ("set", {0: SUM}), ("set", [(0, SUM)]),
    ("set", ([0, SUM],)), ("set", (SUM,)), ("set", ((0, SUM), None)), ("set", ((10 ** 29, SUM),)), ("set", (("0", SUM),)),
    # Sums that are too short and too long.
    ("say", ()), ("say", row(1)), ("say", row(1, 2)), ("say", row(1, 2, 3, 4)), ("say", 1), ("say", (1, 2, 3)),
    ("set", ((0, row(1, 2)),)), ("set", ((0, row(1, 2, 3, 4)),)), ("set", ((0, SUM), (1, row(1, 2)))),
    less((1, 2), (1, 2, 3), 0), less((1, 2, 3), (1, 2), 0), same((1, 2, 3, 4), (1, 2, 3), 0), same((1, 2, 3), (), 0),
    ("less", SUM, list(SUM), 0), ("less", list(SUM), SUM, 0), ("say", list(SUM)), ("set", ((0, list(SUM)),)),
    # Rows below 0 and beyond the END.
    ("go", -1), ("go", 6), ("go", 10 ** 29), ("call", -1), ("call", 6), ("less", SUM, SUM, -1), ("less", SUM, SUM, 6),
    ("same", SUM, SUM, -1), ("same", SUM, SUM, 6), ("go", True), ("go", False), ("call", True), ("less", SUM, SUM, True),
    ("same", SUM, SUM, False), ("go", None), ("go", "1"), ("go", (1,)), ("go", (1, 1)), ("less", SUM, SUM, None),
    # Lists for tuples.
    ["back"], ["go", 1], ["say", SUM], [], ["less", SUM, SUM, 1], deep(("back",), 36), {"go": 1},
]


class CodeTest(unittest.TestCase):

    def check_bad(self, part_told, *arguments):
        with self.assertRaises(BadCode) as caught:
            Code(*arguments)
        self.assertEqual(caught.exception.part, part_told, arguments)

    def check_row(self, bad):
        """Each place of it is told, whatever stands behind it."""
        for at in range(5):
            rows = (("back",),) * at + (bad,) + (("back",),) * (4 - at)
            self.check_bad(("row", at), 2, (0,), rows)
            self.check_bad(("row", at), 2, (0,), rows[:at + 1] + (None,) * (4 - at))

    def test_right_ones_are_kept(self):
        for cells in range(1, 6):
            for outs in [(), (0,), (cells - 1,), tuple(range(cells))]:
                code = Code(cells, outs, (("back",),))
                self.assertEqual((code.cells, code.outs, code.rows), (cells, outs, (("back",),)))
        rows = tuple(ROWS[:5])
        self.assertEqual(Code(2, (0, 1), rows).rows, rows)

    def test_each_sort_of_row_at_each_place(self):
        for one in ROWS:
            for at in range(5):
                rows = (("back",),) * at + (one,) + (("back",),) * (4 - at)
                self.assertEqual(Code(2, (), rows).rows, rows)

    def test_none_forty_and_forty_one_rows(self):
        self.assertEqual(Code(1, (), ()).rows, ())
        self.assertEqual(len(Code(1, (), (("go", 40),) * 40).rows), 40)
        self.check_bad(("rows",), 1, (), (("go", 40),) * 41)
        self.check_bad(("rows",), 1, (), (None,) * 20000)

    def test_the_end_of_no_rows_but_one(self):
        self.assertEqual(Code(1, (), (("go", 1),)).rows, (("go", 1),))
        self.check_bad(("row", 0), 1, (), (("go", 2),))

    def test_cells(self):
        for cells in NO_CELLS:
            self.check_bad(("cells",), cells, (), ())
            self.check_bad(("cells",), cells, None, None)

    def test_outs(self):
        for outs in NO_OUTS:
            self.check_bad(("outs",), 2, outs, ())
            self.check_bad(("outs",), 2, outs, None)
        self.check_bad(("outs",), 1, (1,), ())
        self.assertEqual(Code(2, (1,), ()).outs, (1,))

    def test_rows_that_are_no_tuple(self):
        for rows in [[], [("back",)], "back", {0: ("back",)}, 0, 1, range(0), deep_list_of_rows(), *odd_things()]:
            if not isinstance(rows, tuple):
                self.check_bad(("rows",), 2, (0,), rows)

    def test_the_first_row_that_is_none(self):
        for bad in NO_ROWS:
            self.check_row(bad)

    def test_odd_things_for_rows(self):
        for thing in odd_things():
            self.check_row(thing)

    def test_odd_things_in_rows(self):
        for one in [ROWS[1], ROWS[2], ROWS[3], ROWS[5], ROWS[7]]:
            for bad in spoiled(one):
                self.check_bad(("row", 1), 2, (), (one, bad, one, one, one))

    def test_numbers_that_are_none(self):
        for bad in odd_numbers():
            for one in [say(1, 2, 3), at_once({0: (1, 2, 3)}), less((1, 2, 3), (1, 2, 3), 0)]:
                for path in places(one):
                    if part(one, path) == (2, 1):
                        self.check_bad(("row", 0), 2, (), (replaced(one, path, bad),))

    def test_equality(self):
        same_one = Code(EXAMPLE.cells, EXAMPLE.outs, tuple(EXAMPLE.rows))
        self.assertEqual(EXAMPLE, same_one)
        self.assertIs(EXAMPLE != same_one, False)
        self.assertNotEqual(EXAMPLE, Code(2, (1,), EXAMPLE.rows))
        self.assertNotEqual(EXAMPLE, Code(2, (0,), EXAMPLE.rows[:2]))
        self.assertNotEqual(Code(1, (), ()), Code(2, (), ()))
        for at, one in enumerate(CODES):
            for other_at, other in enumerate(CODES):
                self.assertIs(one == other, at == other_at)

    def test_equal_to_nothing_else(self):
        for thing in odd_things() + [(2, (0,), EXAMPLE.rows), EXAMPLE.rows]:
            self.assertIs(EXAMPLE == thing, False)
            self.assertIs(EXAMPLE != thing, True)

    def test_long_numbers(self):
        big = row(10 ** 29 + 1, -(10 ** 29 + 7), 10 ** 30 - 1)
        self.assertEqual(Code(2, (), (("say", big),)).rows, (("say", big),))
        chance = random.Random(51)
        for _ in range(30):
            code = drawn_code(chance)
            self.assertEqual(Code(code.cells, code.outs, code.rows), code)


def deep_list_of_rows():
    rows = [("back",)]
    for _ in range(36):
        rows = [rows]
    return rows


if __name__ == "__main__":
    unittest.main()
