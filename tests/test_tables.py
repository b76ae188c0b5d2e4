"""Point 5.1: Table, is_letters, letters_ran, letters_make."""

import unittest
from itertools import product

from oncetwice.errors import BadTable, NoContents, NoProgram
from oncetwice.tables import Table, is_letters, letters_make, letters_ran
from tests.helping import deep, odd_things, part, places, replaced, spoiled

EXCHANGE = Table(2, 2, ((0, 0), (1, 0), (0, 1), (1, 1)))
BOTH = (0, 1, 1, 0)
PROGRAM = ((0, BOTH), (1, BOTH), (0, BOTH))
THREE = Table(3, 1, ((1,), (2,), (0,)))
NO_LETTERS = [0, 1, 4, -2, 10 ** 29, (2,), [2], "2", b"2", *odd_things()]
NO_CELLS = [0, 5, -1, 10 ** 29, (2,), [2], "2", b"2", *odd_things()]
NO_CONTENTS = [
    (), (0,), (0, 0, 0), (0, 2), (2, 0), (0, -1), (True, 0), (0, False), (0, None), ("0", 0), ((0,), 0), [0, 0],
    0, 1, "00", b"00", range(2), {0: 0, 1: 0}, (0, 10 ** 29), deep((0, 0), 36), (0,) * 20000, *odd_things()]
NO_PROGRAMS = [
    (0, BOTH), ((0,),), ((0, BOTH, 0),), ((2, BOTH),), ((-1, BOTH),), ((True, BOTH),), ((0, BOTH[1:]),),
    ((0, BOTH + (0,)),), ((0, ()),), ((0, (0, 1, 2, 0)),), ((0, (0, 1, -1, 0)),), ((0, (0, True, 1, 0)),),
    ((0, (False, 1, 1, 0)),), ((0, (0, 1, None, 0)),), ((0, list(BOTH)),), ([0, BOTH],), [(0, BOTH)], [], ((None, BOTH),), ("0", BOTH),
    (((0,), BOTH),), PROGRAM + (None,), PROGRAM + ((),), PROGRAM + ([],), (PROGRAM,), ((0, "0110"),), ((0, b"0110"),),
    ((0, 6),), PROGRAM * 14, ((0, BOTH),) * 41, ((10 ** 29, BOTH),), deep(PROGRAM, 34)]


def contents(letters, cells):
    return list(product(range(letters), repeat=cells))


class TableTest(unittest.TestCase):

    def check_bad(self, part_told, *arguments):
        with self.assertRaises(BadTable) as caught:
            Table(*arguments)
        self.assertEqual(caught.exception.part, part_told, arguments)

    def test_right_ones_are_kept(self):
        for letters, cells in product((2, 3), (1, 2, 3, 4)):
            for ends in (tuple(contents(letters, cells)), ((letters - 1,) * cells,) * letters ** cells):
                table = Table(letters, cells, ends)
                self.assertEqual((table.letters, table.cells, table.ends), (letters, cells, ends))

    def test_letters(self):
        for letters in NO_LETTERS:
            self.check_bad(("letters",), letters, 1, ((0,), (1,)))
            self.check_bad(("letters",), letters, None, None)

    def test_cells(self):
        for cells in NO_CELLS:
            self.check_bad(("cells",), 2, cells, ((0,), (1,)))
            self.check_bad(("cells",), 2, cells, None)

    def test_ends(self):
        for ends in [(), ((0,),), ((0,), (1,), (0,)), [(0,), (1,)], ((0,),) * 20000, "01", b"01", 2, {0: (0,), 1: (1,)},
                     deep(0, 36), None, True, [], [[0], [1]], EXCHANGE, range(2)]:
            self.check_bad(("ends",), 2, 1, ends)
        self.check_bad(("ends",), 3, 1, ((0,), (1,)))
        self.check_bad(("ends",), 2, 2, ((0, 0), (0, 1), (1, 0)))
        self.check_bad(("ends",), 3, 4, (None,) * 80)

    def test_the_first_end_that_is_none(self):
        for at, thing in product(range(4), NO_CONTENTS):
            ends = EXCHANGE.ends[:at] + (thing,) + EXCHANGE.ends[at + 1:]
            self.check_bad(("end", at), 2, 2, ends)
            self.check_bad(("end", at), 2, 2, ends[:at + 1] + (None,) * (3 - at))
        self.check_bad(("end", 80), 3, 4, ((0, 0, 0, 0),) * 80 + ((0, 0, 0, 3),))
        self.check_bad(("end", 0), 2, 1, ((2,), (0,)))
        self.assertEqual(Table(3, 1, ((2,), (0,), (0,))).ends, ((2,), (0,), (0,)))

    def test_equality(self):
        self.assertEqual(EXCHANGE, Table(2, 2, ((0, 0), (1, 0), (0, 1), (1, 1))))
        self.assertFalse(EXCHANGE != Table(2, 2, ((0, 0), (1, 0), (0, 1), (1, 1))))
        self.assertNotEqual(EXCHANGE, Table(2, 2, ((0, 0), (1, 0), (0, 1), (1, 0))))
        self.assertNotEqual(EXCHANGE, THREE)
        self.assertNotEqual(Table(2, 1, ((0,), (0,))), Table(3, 1, ((0,), (0,), (0,))))
        for thing in odd_things() + [(2, 2, EXCHANGE.ends), EXCHANGE.ends]:
            self.assertIs(EXCHANGE == thing, False)
            self.assertIs(EXCHANGE != thing, True)


class IsLettersTest(unittest.TestCase):

    def test_right_ones(self):
        for program in [(), PROGRAM, PROGRAM[:1], ((1, (0, 0, 0, 0)),), ((0, BOTH),) * 40]:
            self.assertIs(is_letters(EXCHANGE, program), True)
        self.assertIs(is_letters(THREE, ((0, (2, 2, 0)),)), True)
        self.assertIs(is_letters(Table(3, 4, ((0,) * 4,) * 81), ((3, (2,) * 81),)), True)

    def test_wrong_ones(self):
        for thing in NO_PROGRAMS + odd_things():
            self.assertIs(is_letters(EXCHANGE, thing), False, thing)
        for thing in [((1, (0, 0, 0)),), ((0, (0, 3, 0)),), ((0, (0, 0)),), ((0, (0, 0, 0, 0)),)]:
            self.assertIs(is_letters(THREE, thing), False, thing)

    def test_with_one_thing_changed(self):
        for thing in spoiled(PROGRAM[:1]):
            self.assertIs(is_letters(EXCHANGE, thing), False, thing)

    def test_with_one_number_changed(self):
        for path in places(PROGRAM):
            if isinstance(part(PROGRAM, path), int):
                for value in range(-1, 4):
                    self.assertIs(is_letters(EXCHANGE, replaced(PROGRAM, path, value)), value in (0, 1))


class LettersRanTest(unittest.TestCase):

    def test_by_hand(self):
        self.assertEqual([letters_ran(EXCHANGE, PROGRAM, content) for content in contents(2, 2)],
                         [(0, 0), (1, 0), (0, 1), (1, 1)])
        self.assertEqual([letters_ran(EXCHANGE, PROGRAM[:2], content) for content in contents(2, 2)],
                         [(0, 0), (1, 0), (1, 1), (0, 1)])
        self.assertEqual([letters_ran(THREE, ((0, (2, 0, 1)),), content) for content in contents(3, 1)],
                         [(2,), (0,), (1,)])
        self.assertEqual(letters_ran(EXCHANGE, (), (1, 0)), (1, 0))
        self.assertIs(type(letters_ran(EXCHANGE, (), (1, 0))), tuple)

    def test_a_writing_reads_what_stands_then(self):
        first, other = (0, (1, 1, 0, 0)), (1, (0, 0, 1, 1))
        self.assertEqual(letters_ran(EXCHANGE, (first, other), (0, 0)), (1, 1))
        self.assertEqual(letters_ran(EXCHANGE, (other, first), (0, 1)), (1, 0))

    def test_the_row_is_for_the_contents_ascending(self):
        table = Table(3, 2, tuple(contents(3, 2)))
        for at, content in enumerate(contents(3, 2)):
            row = tuple(2 if place == at else 0 for place in range(9))
            for other in contents(3, 2):
                told = letters_ran(table, ((1, row),), other)
                self.assertEqual(told, (other[0], 2 if other == content else 0))

    def test_three_cells_of_three_letters(self):
        table = Table(3, 3, tuple(contents(3, 3)))
        turned = tuple((a + b + c) % 3 for a, b, c in contents(3, 3))
        for a, b, c in contents(3, 3):
            self.assertEqual(letters_ran(table, ((2, turned),), (a, b, c)), (a, b, (a + b + c) % 3))
            self.assertEqual(letters_ran(table, ((0, turned), (0, turned)), (a, b, c)), ((a + 2 * b + 2 * c) % 3, b, c))

    def test_forty_writings(self):
        self.assertEqual(letters_ran(EXCHANGE, ((0, (1, 1, 0, 0)),) * 40, (1, 0)), (1, 0))
        self.assertEqual(letters_ran(EXCHANGE, ((0, (1, 1, 0, 0)),) * 39, (1, 0)), (0, 0))

    def test_errors_in_their_order(self):
        for program in NO_PROGRAMS + odd_things():
            for content in [(0, 0), (0, 2), None]:
                with self.assertRaises(NoProgram):
                    letters_ran(EXCHANGE, program, content)
        for content in NO_CONTENTS:
            for program in [(), PROGRAM]:
                with self.assertRaises(NoContents):
                    letters_ran(EXCHANGE, program, content)


class LettersMakeTest(unittest.TestCase):

    def test_by_hand(self):
        self.assertIs(letters_make(EXCHANGE, PROGRAM), True)
        self.assertIs(letters_make(EXCHANGE, PROGRAM[:2]), False)
        self.assertIs(letters_make(EXCHANGE, PROGRAM + PROGRAM[:1] * 2), True)
        self.assertIs(letters_make(EXCHANGE, ()), False)
        self.assertIs(letters_make(THREE, ((0, (1, 2, 0)),)), True)
        self.assertIs(letters_make(THREE, ((0, (1, 2, 1)),)), False)
        self.assertIs(letters_make(Table(2, 2, tuple(contents(2, 2))), ()), True)
        self.assertIs(letters_make(Table(2, 1, ((1,), (1,))), ((0, (1, 1)),)), True)

    def test_one_content_that_is_led_elsewhere(self):
        for at, content in product(range(4), contents(2, 2)):
            ends = EXCHANGE.ends[:at] + (content,) + EXCHANGE.ends[at + 1:]
            self.assertIs(letters_make(Table(2, 2, ends), PROGRAM), content == EXCHANGE.ends[at])

    def test_no_program(self):
        for program in NO_PROGRAMS + odd_things():
            with self.assertRaises(NoProgram):
                letters_make(EXCHANGE, program)


if __name__ == "__main__":
    unittest.main()
