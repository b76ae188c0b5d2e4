"""Point 7.2: was, will, the tenth fact."""

import random
import unittest

from oncetwice.codes import Code
from oncetwice.compiling import compiled, is_compiled
from oncetwice.errors import NoCell
from oncetwice.runners import Runner
from tests.coding import CALLS, EXAMPLE, WIDE, at_once, house_rows, is_set, say, shown
from tests.helping import odd_things, row, writing
from tests.test_runners import EXCHANGE, THROUGH, pairs

SUMS = ((writing(0, 1, 1, 0), writing(1, 1, -1, 0), writing(0, 1, -1, 0)), ())
NO_CELLS = [3, 4, -1, 10 ** 29, (0,), [0], "0", b"0", *odd_things()]


def told(runner, cells):
    return ([runner.was(cell) for cell in range(cells + 1)], [runner.will(cell) for cell in range(cells + 1)])


class ByHandTest(unittest.TestCase):

    def check(self, runner, cells, expected):
        """expected has for each moment what was and will tell of all cells of the house."""
        for was, will in expected:
            self.assertEqual(told(runner, cells), (list(was), list(will)))
            runner.step()

    def test_the_example(self):
        runner = Runner(EXAMPLE, 0, compiled(EXAMPLE, 0), row(1, 2))
        self.check(runner, 2, [
            (row(1, 2, 1), row(2, 3, 1)),
            # b is the sum of both now, from which what it was comes back by a.
            (row(1, 2, 1), row(2, 3, 1)),
            (row(2, 3, 1), (None, None, None)),
            (row(2, 3, 1), ((2, 1), None, (1, 1))),
        ])
        self.assertEqual(told(runner, 2), (list(row(2, 3, 1)), [None] * 3))

    def test_an_exchange_by_sums_loses_nothing(self):
        self.check(Runner(EXCHANGE, 0, SUMS, row(5, 7)), 2, [(row(5, 7, 1), row(7, 5, 1))] * 3)

    def test_an_exchange_by_a_spare_cell_loses_nothing(self):
        self.check(Runner(EXCHANGE, 1, THROUGH, row(5, 7)), 2, [(row(5, 7, 1), row(7, 5, 1))] * 3 + [
            (row(7, 5, 1), (None, None, None))])

    def test_what_is_gone(self):
        # a is to be 3 and c twice the sum of a and b, which is written first.
        code = Code(3, (0, 2), (at_once({0: (0, 0, 0, 3), 2: (2, 2, 0, 0)}),))
        programs = ((writing(2, 2, 2, 0, 0), writing(0, 0, 0, 0, 3)),)
        runner = Runner(code, 0, programs, row(1, 2, 9))
        self.check(runner, 3, [
            (row(1, 2, 9, 1), (*row(3), None, *row(6, 1))),
            # What c held is gone.
            ((*row(1, 2), None, *row(1)), (*row(3), None, *row(6, 1))),
        ])
        programs = ((writing(2, 2, 2, 0, 0), writing(1, 0, 0, 0, 8), writing(0, 0, 0, 0, 3)),)
        runner = Runner(code, 0, programs, row(1, 2, 9))
        self.check(runner, 3, [
            (row(1, 2, 9, 1), (*row(3), None, *row(6, 1))),
            ((*row(1, 2), None, *row(1)), (*row(3), None, *row(6, 1))),
            # b is overwritten, but a and the half of c tell it.
            ((*row(1, 2), None, *row(1)), (*row(3), None, *row(6, 1))),
        ])
        programs = ((writing(2, 2, 2, 0, 0), writing(1, 0, 0, 0, 8), writing(0, 0, 0, 0, 5), writing(0, 0, 0, 0, 3)),)
        runner = Runner(code, 0, programs, row(1, 2, 9))
        runner.go(3)
        # Now the sum of both is left, and nothing tells one of them alone.
        self.check(runner, 3, [((None, None, None, (1, 1)), (*row(3), None, *row(6, 1)))])

    def test_a_spare_cell_whose_content_is_mixed_in(self):
        code = Code(1, (0,), (at_once({0: (2, 1)}),))
        programs = ((writing(0, 1, 0, 1), writing(2, 1, 0, 0), writing(0, 0, 0, 0), writing(2, 1, 0, 1), writing(0, 2, 1, 0)),)
        # What the spare cell held can't be told apart again so.
        self.assertIs(is_compiled(code, 1, programs), False)
        programs = ((writing(0, 1, 0, 1), writing(0, 2, 1, -2)),)
        runner = Runner(code, 1, programs, row(4))
        # a + s stands in a, s in the spare cell: both tell a.
        self.check(runner, 1, [(row(4, 1), row(9, 1)), (row(4, 1), row(9, 1))])
        # With two spare cells a stands in one of them, and what the other one held in a.
        programs = ((writing(2, 1, 0, 0, 0), writing(0, 1, 0, 0, 1), writing(3, 0, 0, 0, 0), writing(0, 0, 1, 2, 0)),)
        runner = Runner(code, 2, programs, row(4))
        self.check(runner, 1, [(row(4, 1), row(9, 1))] * 4)

    def test_a_sum_with_a_spare_cell_alone_tells_nothing(self):
        code = Code(2, (1,), (at_once({1: (0, 3, 0)}),))
        # a is free; a + s stands in it, and the spare cell is written.
        programs = ((writing(0, 1, 0, 0, 1), writing(3, 0, 0, 1, 0), writing(1, 0, 3, 0, 0)),)
        runner = Runner(code, 1, programs, row(4, 5))
        self.check(runner, 2, [
            (row(4, 5, 1), (None, *row(15, 1))),
            (row(4, 5, 1), (None, *row(15, 1))),
            # The spare cell held 0, but of this nothing is known for sure.
            ((None, *row(5, 1)), (None, *row(15, 1))),
        ])

    def test_free_cells_and_rows_that_are_no_set_rows(self):
        code = Code(2, (), (say(1, 0, 0), at_once({0: (1, 1, 0), 1: (2, 0, 0)}), say(0, 1, 0)))
        runner = Runner(code, 0, compiled(code, 0), row(4, 5))
        self.check(runner, 2, [(row(4, 5, 1), (None,) * 3), (row(4, 5, 1), (None, *row(8, 1))), (row(4, 8, 1), (None,) * 3)])
        self.assertEqual(told(runner, 2), (list(row(4, 8, 1)), [None] * 3))

    def test_at_a_fault(self):
        runner = Runner(Code(1, (0,), (("back",),)), 0, ((),), row(4))
        self.assertEqual(told(runner, 1), (list(row(4, 1)), [None, None]))

    def test_a_set_row_without_writings(self):
        code = Code(2, (0,), (at_once({1: (1, 0, 0)}), say(1, 0, 0)))
        runner = Runner(code, 0, ((), ()), row(4, 5))
        self.assertEqual(told(runner, 2), (list(row(4, 5, 1)), [(4, 1), None, (1, 1)]))

    def test_the_row_was_begun_anew_in_the_next_round(self):
        code = Code(1, (0,), (at_once({0: (2, 0)}), ("go", 0)))
        runner = Runner(code, 0, ((writing(0, 3, 0), writing(0, "2/3", 0)), ()), row(1))
        for times in range(5):
            self.assertEqual(told(runner, 1), (list(row(2 ** times, 1)), list(row(2 ** (times + 1), 1))))
            runner.step()
            self.assertEqual(runner.contents(), row(3 * 2 ** times, 1))
            self.assertEqual(told(runner, 1), (list(row(2 ** times, 1)), list(row(2 ** (times + 1), 1))))
            runner.go(2)
            self.assertEqual((runner.row(), runner.moment()), (0, 0))
        runner.go(1)
        runner.back()
        self.assertEqual(runner.was(0), (32, 1))
        runner.back()
        runner.back()
        self.assertEqual((runner.moment(), runner.was(0), runner.will(0)), (1, (16, 1), (32, 1)))

    def test_five_cells(self):
        runner = Runner(WIDE, 0, compiled(WIDE, 0), row(1, 2, 3, 4, 5))
        while runner.row() == 0:
            self.assertEqual(runner.was(5), (1, 1))
            self.assertEqual([runner.will(cell) for cell in range(6)], list(row(2, 3, 4, 5, 1, 1)))
            runner.step()
        # The next row sets c to what it holds, and all cells are wanted.
        self.assertEqual(told(runner, 5), (list(row(2, 3, 4, 5, 1, 1)),) * 2)


class FactsTest(unittest.TestCase):

    def test_in_the_midst_of_a_set_row_will_is_told_of_each_cell_that_is_not_free(self):
        chance = random.Random(91)
        midst = 0
        for code, spare, programs, begins in pairs(chance):
            runner = Runner(code, spare, programs, begins)
            for _ in range(30):
                if is_set(code, runner.row()):
                    rows = house_rows(code, runner.row())
                    for cell in range(code.cells + 1):
                        self.assertIs(runner.will(cell) is None, rows[cell] is None)
                    midst += runner.moment() > 0
                if runner.word() == "runs":
                    runner.step()
        self.assertGreater(midst, 200)

    def test_what_will_tells_comes(self):
        chance = random.Random(92)
        for code, spare, programs, begins in pairs(chance):
            runner = Runner(code, spare, programs, begins)
            for _ in range(30):
                at = runner.row()
                if is_set(code, at):
                    promised = [runner.will(cell) for cell in range(code.cells + 1)]
                    runner.go(max(1, len(programs[at]) - runner.moment()))
                    self.assertEqual((runner.row(), runner.moment()), (at + 1, 0))
                    for cell, one in enumerate(promised):
                        self.assertIn(one, [None, runner.contents()[cell]])
                elif runner.word() == "runs":
                    runner.step()

    def test_nothing_is_changed_by_asking(self):
        runner = Runner(CALLS, 1, compiled(CALLS, 1), row(2, 1, 0))
        runner.go(3)
        self.assertEqual(shown(runner, 3), shown(runner, 3))


class NoCellTest(unittest.TestCase):

    def test_no_cell(self):
        for runner in [Runner(EXCHANGE, 1, THROUGH, row(5, 7)), Runner(EXCHANGE, 0, SUMS, row(5, 7))]:
            for _ in range(5):
                before = shown(runner, 2)
                for cell in NO_CELLS:
                    with self.assertRaises(NoCell):
                        runner.was(cell)
                    with self.assertRaises(NoCell):
                        runner.will(cell)
                self.assertEqual(shown(runner, 2), before)
                if runner.word() == "runs":
                    runner.step()

    def test_the_cell_that_holds_one_is_of_the_house(self):
        runner = Runner(EXCHANGE, 1, THROUGH, row(5, 7))
        self.assertEqual((runner.was(2), runner.will(2)), ((1, 1), (1, 1)))


if __name__ == "__main__":
    unittest.main()
