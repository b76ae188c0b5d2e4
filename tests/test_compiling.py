"""Points 6.4 and 6.5: wish_at, compiled, is_compiled, cost, ran_compiled, the ninth fact."""

import random
import unittest
from fractions import Fraction

from oncetwice.codes import Code, plain
from oncetwice.compiling import compiled, cost, is_compiled, ran_compiled, wish_at
from oncetwice.errors import NoCompiled, NoContents, NoNumber, NoRow
from oncetwice.fewest import fewest, shortest
from oncetwice.making import made
from oncetwice.wishes import Wish
from tests.coding import CALLS, CODES, EXAMPLE, ROUNDS, TURNS, WIDE, at_once, drawn_begins, drawn_code, house_rows, is_set
from tests.coding import made_by, say
from tests.helping import deep, number, odd_things, part, places, replaced, row, spoiled, unit, wish, writing
from tests.test_plain import NO_BEGINS, NO_MOST

NO_SPARE = [-1, 3, 10 ** 29, (1,), [1], "1", b"1", *odd_things()]
# Both cells are exchanged, and wanted; nobody reads a any more; a row that is no set row; b is set to what it is.
SMALL = Code(2, (1,), (at_once({0: (0, 1, 0), 1: (1, 0, 0)}), at_once({0: (1, 1, 0), 1: (1, -1, 2)}), say(0, 1, 0),
                       at_once({1: (0, 1, 0)})))


def expected_wish(code, at, spare):
    rows = [None if values is None else tuple(number(one) for one in values) for values in house_rows(code, at)]
    return Wish(tuple(rows), (code.cells,), spare)


def other_programs(chance, code, spare, program, at):
    """A program of a set row that makes its wish by another order, or with needless writings."""
    if not is_set(code, at):
        return ()
    a_wish = wish_at(code, at, spare)
    cells = list(range(code.cells)) + list(range(code.cells + 1, code.cells + 1 + spare))
    for _ in range(20):
        order = tuple(chance.choice(cells) for _ in range(chance.randrange(len(program), len(program) + 3)))
        found = made(a_wish, order)
        if found is not None:
            return found
    many = code.cells + 1 + spare
    keep = [(cell, tuple(number(one) for one in unit(cell, many))) for cell in cells]
    lost = [(cell, row(*[chance.randrange(3) for _ in range(many)])) for cell in cells if cell > code.cells]
    return tuple(chance.sample(lost, len(lost))) + program + (chance.choice(keep),)


def all_other_programs(chance, code, spare):
    return tuple(other_programs(chance, code, spare, program, at) for at, program in enumerate(compiled(code, spare)))


class WishAtTest(unittest.TestCase):

    def test_by_hand(self):
        self.assertEqual(wish_at(SMALL, 0, 0), wish([(0, 1, 0), (1, 0, 0), (0, 0, 1)], (2,), 0))
        # Behind row 1 nobody reads a.
        self.assertEqual(wish_at(SMALL, 1, 0), wish([None, (1, -1, 2), (0, 0, 1)], (2,), 0))
        self.assertEqual(wish_at(SMALL, 3, 0), wish([None, (0, 1, 0), (0, 0, 1)], (2,), 0))

    def test_cells_that_the_row_does_not_set_keep_if_they_are_live(self):
        code = Code(3, (0, 1), (at_once({1: (1, "1/2", 0, -3)}),))
        self.assertEqual(wish_at(code, 0, 0), wish([(1, 0, 0, 0), (1, "1/2", 0, -3), None, (0, 0, 0, 1)], (3,), 0))

    def test_nothing_is_live_behind_it(self):
        self.assertEqual(wish_at(Code(1, (), (at_once({0: (2, 1)}),)), 0, 1), wish([None, (0, 1)], (1,), 1))

    def test_spare_cells(self):
        for spare in range(3):
            self.assertEqual(wish_at(SMALL, 0, spare), wish([(0, 1, 0), (1, 0, 0), (0, 0, 1)], (2,), spare))
            self.assertIs(type(wish_at(SMALL, 0, spare)), Wish)

    def test_five_cells(self):
        rows = [[int(place == (cell + 1) % 5) for place in range(6)] for cell in range(5)] + [(0, 0, 0, 0, 0, 1)]
        self.assertEqual(wish_at(WIDE, 0, 2), wish(rows, (5,), 2))

    def test_against_a_second_reckoning(self):
        chance = random.Random(71)
        for code in [*CODES, *[drawn_code(chance) for _ in range(100)]]:
            for at in range(len(code.rows)):
                if is_set(code, at):
                    spare = chance.randrange(3)
                    self.assertEqual(wish_at(code, at, spare), expected_wish(code, at, spare))

    def test_no_row_comes_ahead_of_no_number(self):
        for at in [2, 4, -1, 10 ** 29, True, False, (0,), [0], "0", b"0", *odd_things()]:
            for spare in [0, 3, None]:
                with self.assertRaises(NoRow):
                    wish_at(SMALL, at, spare)
        with self.assertRaises(NoRow):
            wish_at(Code(1, (), ()), 0, 0)
        for at, a_row in enumerate(CALLS.rows):
            if a_row[0] != "set":
                with self.assertRaises(NoRow):
                    wish_at(CALLS, at, 0)

    def test_no_number(self):
        for spare in NO_SPARE:
            with self.assertRaises(NoNumber):
                wish_at(SMALL, 0, spare)


class CompiledTest(unittest.TestCase):

    def check(self, code, spare):
        told = compiled(code, spare)
        self.assertIs(type(told), tuple)
        self.assertEqual(len(told), len(code.rows))
        many = 0
        for at, program in enumerate(told):
            if is_set(code, at):
                a_wish = expected_wish(code, at, spare)
                self.assertEqual(tuple(cell for cell, _ in program), shortest(a_wish))
                self.assertIs(made_by(a_wish, program), True)
                many += fewest(a_wish)
            else:
                self.assertEqual(program, ())
        self.assertEqual(cost(code, spare), many)
        self.assertEqual(cost(code, spare), sum(map(len, told)))
        self.assertIs(is_compiled(code, spare, told), True)

    def test_the_example(self):
        self.assertEqual(cost(EXAMPLE, 0), 2)
        self.check(EXAMPLE, 0)
        # b is nothing that counts at the end, so that row 2 needs no writing.
        self.assertEqual([len(program) for program in compiled(EXAMPLE, 0)], [2, 0, 0])

    def test_by_hand(self):
        # An exchange needs three writings, whatever is spare; then b alone is written; then nothing.
        self.assertEqual([len(program) for program in compiled(SMALL, 0)], [3, 1, 0, 0])
        self.assertEqual([tuple(cell for cell, _ in program) for program in compiled(SMALL, 0)], [(0, 1, 0), (1,), (), ()])
        self.assertEqual([cost(SMALL, spare) for spare in range(3)], [4, 4, 4])
        self.assertEqual(compiled(SMALL, 0)[1], (writing(1, 1, -1, 2),))
        # Two exchanges at once need six writings, with a spare cell five.
        both = Code(4, (0, 1, 2, 3), (at_once({0: (0, 1, 0, 0, 0), 1: (1, 0, 0, 0, 0), 2: (0, 0, 0, 1, 0), 3: (0, 0, 1, 0, 0)}),))
        self.assertEqual([cost(both, spare) for spare in range(3)], [6, 5, 5])
        # Without d at the end no way back is needed for it.
        self.assertEqual([cost(Code(4, (0, 1, 2), both.rows), spare) for spare in range(3)], [4, 4, 4])

    def test_no_rows_and_no_set_rows(self):
        for spare in range(3):
            self.assertEqual(compiled(Code(1, (), ()), spare), ())
            self.assertEqual(cost(Code(1, (), ()), spare), 0)
            self.assertEqual(compiled(Code(1, (), (("back",), say(1, 2), ("go", 0), ("call", 1))), spare), ((), (), (), ()))

    def test_all_codes(self):
        for code in [*CODES, SMALL]:
            for spare in range(3):
                self.check(code, spare)

    def test_drawn_codes(self):
        chance = random.Random(72)
        for _ in range(60):
            self.check(drawn_code(chance), chance.randrange(3))

    def test_forty_rows(self):
        code = Code(5, (0, 1, 2, 3, 4), (WIDE.rows[0],) * 40)
        for spare in range(3):
            self.assertEqual(cost(code, spare), 240)
            self.assertEqual([len(program) for program in compiled(code, spare)], [6] * 40)

    def test_equal_calls_give_equal_answers(self):
        self.assertEqual(compiled(TURNS, 1), compiled(TURNS, 1))

    def test_no_number(self):
        for spare in NO_SPARE:
            with self.assertRaises(NoNumber):
                compiled(SMALL, spare)
            with self.assertRaises(NoNumber):
                cost(SMALL, spare)


class IsCompiledTest(unittest.TestCase):

    def test_programs_of_other_orders(self):
        chance = random.Random(73)
        unlike = 0
        for code in [*CODES, SMALL]:
            for spare in range(3):
                for _ in range(4):
                    programs = all_other_programs(chance, code, spare)
                    self.assertIs(is_compiled(code, spare, programs), True)
                    unlike += programs != compiled(code, spare)
        self.assertGreater(unlike, 40)

    def test_by_hand(self):
        code = Code(2, (0, 1), (at_once({0: (0, 1, 0), 1: (1, 0, 0)}), say(1, 0, 0)))
        exchange = (writing(0, 1, 1, 0), writing(1, 1, -1, 0), writing(0, 1, -1, 0))
        self.assertIs(is_compiled(code, 0, (exchange, ())), True)
        # The cell that holds ONE helps along, but must not be written.
        added = (writing(0, 1, 1, 5), writing(1, 1, -1, -5), writing(0, 1, -1, -5))
        self.assertIs(is_compiled(code, 0, (added, ())), True)
        self.assertIs(is_compiled(code, 0, (exchange + (writing(2, 0, 0, 1),), ())), False)
        self.assertIs(is_compiled(code, 0, (exchange[:2], ())), False)
        self.assertIs(is_compiled(code, 0, (exchange, exchange)), False)
        self.assertIs(is_compiled(code, 0, (exchange, (writing(0, 1, 0, 0),))), False)
        self.assertIs(is_compiled(code, 0, (exchange,)), False)
        self.assertIs(is_compiled(code, 0, (exchange, (), ())), False)
        self.assertIs(is_compiled(code, 0, ((), exchange)), False)
        self.assertIs(is_compiled(code, 0, ()), False)
        self.assertIs(is_compiled(code, 1, (exchange, ())), False)
        through = (writing(3, 1, 0, 0, 0), writing(0, 0, 1, 0, 0), writing(1, 0, 0, 0, 1))
        self.assertIs(is_compiled(code, 1, (through, ())), True)
        self.assertIs(is_compiled(code, 0, (through, ())), False)
        self.assertIs(is_compiled(code, 1, (through[1:], ())), False)
        # What a spare cell held must be gone.
        leaking = through[:2] + (writing(1, 0, 0, 0, 1), writing(0, 1, 0, 0, 0))
        self.assertIs(is_compiled(code, 1, (leaking, ())), True)
        self.assertIs(is_compiled(code, 1, ((writing(0, 1, 0, 0, 1),) + leaking, ())), False)

    def test_at_most_sixty_writings(self):
        code = Code(1, (0,), (at_once({0: (1, 0)}),))
        self.assertIs(is_compiled(code, 0, ((writing(0, 1, 0),) * 60,)), True)
        self.assertIs(is_compiled(code, 0, ((writing(0, 1, 0),) * 61,)), False)

    def test_free_cells_may_be_written(self):
        self.assertIs(is_compiled(EXAMPLE, 0, compiled(EXAMPLE, 0)[:2] + ((writing(1, 5, 5, 5),),)), True)
        self.assertIs(is_compiled(EXAMPLE, 0, compiled(EXAMPLE, 0)[:2] + ((writing(0, 5, 5, 5),),)), False)

    def test_no_rows(self):
        code = Code(1, (), ())
        self.assertIs(is_compiled(code, 0, ()), True)
        for thing in [((),), [], "", {}, 0, None]:
            self.assertIs(is_compiled(code, 0, thing), False)

    def test_with_one_number_changed(self):
        for spare in (0, 1):
            programs = compiled(SMALL, spare)
            told = set()
            for path in places(programs):
                here = part(programs, path)
                if isinstance(here, tuple) and len(here) == 2 and isinstance(here[0], int) and isinstance(here[1], int):
                    for other in [(0, 1), (1, 1), (-1, 1), (1, 2), (2, 1)]:
                        changed = replaced(programs, path, other)
                        right = all(made_by(expected_wish(SMALL, at, spare), changed[at]) for at in (0, 1, 3))
                        self.assertIs(is_compiled(SMALL, spare, changed), right)
                        told.add(right)
            self.assertEqual(told, {True, False})

    def test_with_one_thing_changed(self):
        programs = compiled(SMALL, 0)
        for thing in spoiled(programs[:2]):
            if isinstance(thing, tuple):
                self.assertIs(is_compiled(SMALL, 0, thing + programs[2:]), False)
        for at in (2, 3):
            for thing in odd_things() + [[], [()], ((),), (None,)]:
                self.assertIs(is_compiled(SMALL, 0, programs[:at] + (thing,) + programs[at + 1:]), False)

    def test_odd_things(self):
        for thing in odd_things() + [list(compiled(SMALL, 0)), (), deep(compiled(SMALL, 0), 30), ((),) * 20000]:
            self.assertIs(is_compiled(SMALL, 0, thing), False)

    def test_no_number(self):
        for spare in NO_SPARE:
            for thing in [compiled(SMALL, 0), None, ()]:
                with self.assertRaises(NoNumber):
                    is_compiled(SMALL, spare, thing)


class RanCompiledTest(unittest.TestCase):

    def test_the_example(self):
        self.assertEqual(ran_compiled(EXAMPLE, 0, compiled(EXAMPLE, 0), row(1, 2), 9), (row("1/2"), "end", row(2)))

    def test_by_hand(self):
        self.assertEqual(ran_compiled(ROUNDS, 1, compiled(ROUNDS, 1), row(3, 0), 99), (row(3, 2, 1, 17), "end", row(17)))
        self.assertEqual(ran_compiled(CALLS, 0, compiled(CALLS, 0), row(19, 0, 0), 999), ((), "end", row(38, 20)))
        self.assertEqual(ran_compiled(CALLS, 0, compiled(CALLS, 0), row(20, 0, 0), 999), ((), "fault", None))
        self.assertEqual(ran_compiled(Code(1, (0,), ()), 2, (), row(3), 0), ((), "end", row(3)))

    def test_it_is_what_plain_tells(self):
        chance = random.Random(74)
        for code in [*CODES, SMALL]:
            for spare in range(3):
                for programs in [compiled(code, spare), all_other_programs(chance, code, spare)]:
                    begins = drawn_begins(chance, code)
                    for most in [*range(12), 50]:
                        self.assertEqual(ran_compiled(code, spare, programs, begins, most), plain(code, begins, most))

    def test_drawn_codes(self):
        chance = random.Random(75)
        for _ in range(120):
            code = drawn_code(chance)
            spare = chance.randrange(3)
            begins = drawn_begins(chance, code)
            for programs in [compiled(code, spare), all_other_programs(chance, code, spare)]:
                for most in (0, 1, 2, 5, 11):
                    self.assertEqual(ran_compiled(code, spare, programs, begins, most), plain(code, begins, most))

    def test_spare_cells_hold_nought_at_first(self):
        # Nothing of it may be seen, whatever the programs leave in the spare cell from row to row.
        code = Code(1, (0,), (at_once({0: (1, 1)}), at_once({0: (2, 0)}), say(1, 0)))
        programs = ((writing(2, 7, 7, 7), writing(0, 1, 1, 0)), (writing(2, 1, 0, 1), writing(0, 2, 0, 0)), ())
        self.assertEqual(ran_compiled(code, 1, programs, row(4), 9), (row(10), "end", row(10)))

    def test_errors_in_their_order(self):
        programs = compiled(SMALL, 0)
        for spare in NO_SPARE:
            with self.assertRaises(NoNumber):
                ran_compiled(SMALL, spare, None, None, 5)
        for thing in [*odd_things(), programs[:3], programs + ((),), list(programs), compiled(SMALL, 1), ((),) * 4]:
            for begins, most in [(row(1, 2), 5), (None, 5), (None, -1)]:
                with self.assertRaises(NoCompiled):
                    ran_compiled(SMALL, 0, thing, begins, most)
        for begins in NO_BEGINS:
            for most in [5, -1, None]:
                with self.assertRaises(NoContents):
                    ran_compiled(SMALL, 0, programs, begins, most)
        for most in NO_MOST:
            with self.assertRaises(NoNumber):
                ran_compiled(SMALL, 0, programs, row(1, 2), most)

    def test_long_numbers(self):
        code = Code(2, (0, 1), (at_once({0: (Fraction(10 ** 29 + 1, 3), -1, 10 ** 29), 1: (1, Fraction(1, 10 ** 29), 0)}),) * 6)
        begins = row(10 ** 29 + 3, Fraction(-7, 10 ** 29 + 9))
        self.assertEqual(ran_compiled(code, 1, compiled(code, 1), begins, 9), plain(code, begins, 9))


if __name__ == "__main__":
    unittest.main()
