"""Point 1.2: is_program, ran, standing, makes."""

import random
import unittest
from fractions import Fraction

from oncetwice.errors import NoContents, NoProgram
from oncetwice.wishes import is_program, makes, ran, standing
from tests.helping import (
    FAR, SWAP, done_ticks, fulfils, number, odd_numbers, odd_things, row, singly, spoiled, unit, wish, writing)

EXAMPLE = (writing(0, 1, 1), writing(1, 1, -1), writing(0, 1, -1))
SPARE = wish([(0, 1), (1, 0)], (), 1)
THROUGH = (writing(2, 1, 0, 0), writing(0, 0, 1, 0), writing(1, 0, 0, 1))


class IsProgramTest(unittest.TestCase):

    def test_right_ones(self):
        self.assertIs(is_program(SWAP, EXAMPLE), True)
        self.assertIs(is_program(SPARE, THROUGH), True)
        self.assertIs(is_program(SWAP, (writing(1, "-7/3", 10 ** 29),)), True)

    def test_none_sixty_and_sixty_one_writings(self):
        self.assertIs(is_program(SWAP, ()), True)
        self.assertIs(is_program(SWAP, EXAMPLE[:1] * 60), True)
        self.assertIs(is_program(SWAP, EXAMPLE[:1] * 61), False)

    def test_locked_cells_may_be_written(self):
        self.assertIs(is_program(wish([(0, 1), (1, 0)], (0, 1)), EXAMPLE), True)

    def test_cells_beyond(self):
        for cell in (2, 3, -1, 10 ** 20):
            self.assertIs(is_program(SWAP, (writing(cell, 1, 1),)), False)
        self.assertIs(is_program(SPARE, (writing(2, 1, 1, 1),)), True)
        self.assertIs(is_program(SPARE, (writing(3, 1, 1, 1),)), False)
        twice = wish([(1,)], (), 2)
        self.assertEqual([is_program(twice, (writing(k, 1, 0, 0),)) for k in range(5)],
                         [True, True, True, False, False])

    def test_rows_too_short_and_too_long(self):
        for values in [(), (1,), (1, 1, 1), (1, 1, 1, 1)]:
            self.assertIs(is_program(SWAP, (writing(0, *values),)), False)
        self.assertIs(is_program(SPARE, (writing(0, 1, 1),)), False)
        self.assertIs(is_program(SPARE, (writing(0, 1, 1, 1, 1),)), False)

    def test_bad_numbers(self):
        for bad in odd_numbers():
            self.assertIs(is_program(SWAP, ((0, ((1, 1), bad)),)), False, bad)
            self.assertIs(is_program(SWAP, EXAMPLE + ((0, (bad, (1, 1))),)), False, bad)

    def test_writings_that_are_no_pairs(self):
        for bad in [(0,), (0, row(1, 1), 0), row(1, 1), (row(1, 1), 0), (True, row(1, 1)), 0]:
            self.assertIs(is_program(SWAP, (bad,)), False, bad)

    def test_odd_things_everywhere(self):
        for thing in spoiled(EXAMPLE):
            self.assertIs(is_program(SWAP, thing), False, thing)
        self.assertIs(is_program(SWAP, [EXAMPLE[0]]), False)
        self.assertIs(is_program(SWAP, []), False)


class RanTest(unittest.TestCase):

    def test_by_hand(self):
        # 5 and 3: 5+3=8, then 8-3=5, then 8-5=3.
        self.assertEqual(ran(SWAP, EXAMPLE, row(5, 3)), row(3, 5))
        self.assertEqual(ran(SWAP, EXAMPLE[:2], row(5, 3)), row(8, 5))
        # 1/2*1/2 + 2/3*3/4 = 1/4 + 1/2 = 3/4, then 2*3/4 - 3/4 = 3/4.
        halves = (writing(0, "1/2", "2/3"), writing(1, 2, -1))
        self.assertEqual(ran(FAR, halves, row("1/2", "3/4")), row("3/4", "3/4"))

    def test_numbers_come_in_lowest_terms(self):
        self.assertEqual(ran(wish([(1,)]), (writing(0, "2/3"),), row("3/2")), ((1, 1),))
        self.assertEqual(ran(SWAP, (writing(0, "1/6", "1/3"),), row(1, 1)), ((1, 2), (1, 1)))
        self.assertEqual(ran(SWAP, (writing(0, "1/2", "-1/2"),), row("1/3", "1/3")), ((0, 1), (1, 3)))
        self.assertEqual(ran(SWAP, (writing(0, "-1/6", "-1/3"),), row(1, 1)), ((-1, 2), (1, 1)))

    def test_spare_cells_hold_and_count_too(self):
        self.assertEqual(ran(SPARE, THROUGH, row(5, 3, "9/4")), row(3, 5, 5))
        self.assertEqual(ran(SPARE, (writing(0, 1, 1, 4),), row(5, 3, "9/4")), row(17, 3, "9/4"))
        self.assertEqual(ran(SPARE, (writing(2, 0, 0, -1),), row(5, 3, "9/4")), row(5, 3, "-9/4"))

    def test_the_written_cell_may_be_in_its_own_sum(self):
        self.assertEqual(ran(SWAP, (writing(0, 3, 0),) * 4, row(2, 7)), row(162, 7))

    def test_no_writing(self):
        self.assertEqual(ran(SPARE, (), row(1, "-2/3", 0)), row(1, "-2/3", 0))

    def test_locked_cells_are_written_too(self):
        self.assertEqual(ran(wish([(0, 1), (1, 0)], (0, 1)), EXAMPLE, row(5, 3)), row(3, 5))

    def test_like_a_second_reckoning(self):
        chance = random.Random(12)
        for _ in range(40):
            a_wish, program, contents = drawn(chance)
            told = ran(a_wish, program, contents)
            expected = done_ticks(a_wish, singly(program), [[Fraction(*held)] for held in contents])
            self.assertEqual(told, tuple(number(held[0]) for held in expected))

    def test_long_numbers(self):
        chance = random.Random(13)
        big = [number(Fraction(chance.randrange(-10 ** 30, 10 ** 30), chance.randrange(1, 10 ** 30)))
               for _ in range(40)]
        program = tuple((k % 3, tuple(chance.sample(big, 3))) for k in range(12))
        contents = tuple(big[:3])
        expected = done_ticks(SPARE, singly(program), [[Fraction(*held)] for held in contents])
        told = ran(SPARE, program, contents)
        self.assertEqual(told, tuple(number(held[0]) for held in expected))
        self.assertEqual(ran(SPARE, program, told),
                         tuple(number(held[0]) for held in done_ticks(SPARE, singly(program), expected)))

    def test_no_program(self):
        for thing in spoiled(EXAMPLE):
            with self.assertRaises(NoProgram):
                ran(SWAP, thing, row(1, 1))
        with self.assertRaises(NoProgram):
            ran(SWAP, EXAMPLE[:1] * 61, row(1, 1))

    def test_no_contents(self):
        bad = [(), row(1), row(1, 2, 3), list(row(1, 2)), *odd_things(), *spoiled(row(1, 2))]
        bad += [((1, 1), thing) for thing in odd_numbers()]
        for contents in bad:
            with self.assertRaises(NoContents):
                ran(SWAP, EXAMPLE, contents)
        for contents in [row(1, 2), row(1, 2, 3, 4)]:
            with self.assertRaises(NoContents):
                ran(SPARE, THROUGH, contents)

    def test_no_program_comes_ahead_of_no_contents(self):
        for thing in odd_things():
            with self.assertRaises(NoProgram):
                ran(SWAP, thing, thing)


class StandingTest(unittest.TestCase):

    def test_by_hand(self):
        self.assertEqual(standing(SWAP, ()), (row(1, 0), row(0, 1)))
        self.assertEqual(standing(SWAP, EXAMPLE[:1]), (row(1, 1), row(0, 1)))
        self.assertEqual(standing(SWAP, EXAMPLE[:2]), (row(1, 1), row(1, 0)))
        self.assertEqual(standing(SWAP, EXAMPLE), (row(0, 1), row(1, 0)))
        # b = 2/3 a + 1/2 b, then a = 3/4 a - 6 b = (3/4 - 4) a - 3 b.
        self.assertEqual(standing(SWAP, (writing(1, "2/3", "1/2"), writing(0, "3/4", -6))),
                         (row("-13/4", -3), row("2/3", "1/2")))

    def test_spare_cells(self):
        self.assertEqual(standing(SPARE, ()), (row(1, 0, 0), row(0, 1, 0), row(0, 0, 1)))
        self.assertEqual(standing(SPARE, THROUGH), (row(0, 1, 0), row(1, 0, 0), row(1, 0, 0)))
        self.assertEqual(standing(SPARE, (writing(0, 1, 0, 5), writing(2, 2, 0, "1/2"))),
                         (row(1, 0, 5), row(0, 1, 0), row(2, 0, "21/2")))

    def test_like_a_second_reckoning(self):
        chance = random.Random(14)
        for _ in range(40):
            a_wish, program, contents = drawn(chance)
            many = len(contents)
            expected = done_ticks(a_wish, singly(program), [unit(cell, many) for cell in range(many)])
            self.assertEqual(standing(a_wish, program), tuple(row(*values) for values in expected))

    def test_no_program(self):
        for thing in spoiled(EXAMPLE[:2]):
            with self.assertRaises(NoProgram):
                standing(SWAP, thing)
        with self.assertRaises(NoProgram):
            standing(SWAP, EXAMPLE[:1] * 61)


class MakesTest(unittest.TestCase):

    def test_the_example(self):
        self.assertIs(makes(SWAP, EXAMPLE), True)
        self.assertIs(makes(FAR, EXAMPLE), False)
        self.assertIs(makes(FAR, (writing(1, 1, 1), writing(0, -1, 1))), True)
        self.assertIs(makes(SWAP, ()), False)
        self.assertIs(makes(wish([(1, 0), (0, 1)]), ()), True)

    def test_one_wish_of_several_fails(self):
        self.assertIs(makes(wish([(0, 1), (1, 1)]), EXAMPLE[:1]), False)
        self.assertIs(makes(wish([(1, 1), (1, 1)]), EXAMPLE[:1]), False)
        self.assertIs(makes(wish([(1, 1), (0, 1)]), EXAMPLE[:1]), True)

    def test_free_cells_may_hold_anything(self):
        self.assertIs(makes(wish([(1, 1), None]), (writing(0, 1, 1), writing(1, 3, 3))), True)
        self.assertIs(makes(wish([None, (1, 1)]), (writing(0, 1, 1),)), False)
        self.assertIs(makes(wish([None, None]), ()), True)

    def test_a_locked_cell_must_not_be_written_even_if_it_holds_its_wish(self):
        keep = (writing(0, 1, 0),)
        self.assertIs(makes(wish([(1, 0), (0, 1)], (1,)), keep), True)
        self.assertIs(makes(wish([(1, 0), (0, 1)], (0,)), keep), False)
        self.assertIs(makes(wish([None, (0, 1)], (0,)), keep), False)
        self.assertIs(makes(wish([(0, 1), (1, 0)], (0,)), EXAMPLE), False)
        self.assertIs(makes(wish([(1, 0), (0, 1)], (0, 1)), ()), True)
        self.assertIs(makes(wish([(0, 1), (1, 0)], (0, 1)), ()), False)

    def test_spare_cells_may_be_used_but_nothing_may_stay_of_what_they_held(self):
        self.assertIs(makes(SPARE, THROUGH), True)
        leaking = wish([(1, 0), (0, 1)], (), 1)
        self.assertIs(makes(leaking, (writing(0, 1, 0, 1),)), False)
        self.assertIs(makes(leaking, (writing(0, 1, 0, 1), writing(0, 1, 0, -1))), True)
        self.assertIs(makes(leaking, (writing(2, 0, 0, 7),)), True)
        two = wish([(1,)], (), 2)
        self.assertIs(makes(two, (writing(0, 1, 0, 1),)), False)
        self.assertIs(makes(two, (writing(0, 1, 1, -1), writing(0, 1, -1, 1))), True)
        self.assertIs(makes(two, (writing(2, 0, 1, 0), writing(0, 1, 1, -1))), True)

    def test_like_a_second_reckoning(self):
        chance = random.Random(15)
        for _ in range(60):
            a_wish, program, _ = drawn(chance)
            self.assertIs(makes(a_wish, program), fulfils(a_wish, singly(program)))
            behind = standing(a_wish, program)
            many = len(a_wish.rows)
            made = wish([[Fraction(*pair) for pair in values[:many]] for values in behind[:many]], (), a_wish.spare)
            clean = all(pair == (0, 1) for values in behind[:many] for pair in values[many:])
            self.assertIs(makes(made, program), clean)

    def test_no_program(self):
        for thing in spoiled(EXAMPLE[:2]):
            with self.assertRaises(NoProgram):
                makes(SWAP, thing)
        with self.assertRaises(NoProgram):
            makes(SWAP, EXAMPLE[:1] * 61)

    def test_nothing_is_changed_and_equal_calls_give_equal_answers(self):
        rows = SWAP.rows
        self.assertEqual([makes(SWAP, EXAMPLE) for _ in range(3)], [True] * 3)
        self.assertEqual(standing(SWAP, EXAMPLE), standing(SWAP, EXAMPLE))
        self.assertEqual((SWAP.rows, SWAP.locked, SWAP.spare), (rows, (), 0))


def drawn(chance):
    """A small wish, a program and contents, drawn with small broken numbers."""
    many, spare = chance.randrange(1, 4), chance.randrange(3)

    def numbers(length):
        return [Fraction(chance.choice([0, 0, 1, -1, 2, 3]), chance.randrange(1, 4)) for _ in range(length)]

    locked = tuple(cell for cell in range(many) if chance.random() < 0.1)
    a_wish = wish([numbers(many) if chance.random() < 0.8 else None for _ in range(many)], locked, spare)
    program = tuple(writing(chance.randrange(many + spare), *numbers(many + spare))
                    for _ in range(chance.randrange(8)))
    return a_wish, program, row(*numbers(many + spare))
