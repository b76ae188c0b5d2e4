"""Point 6.3: live."""

import random
import unittest
from itertools import combinations, product

from oncetwice.codes import Code, live
from tests.coding import CALLS, CODES, EXAMPLE, ROUNDS, TURNS, at_once, drawn_code, less, live_of, next_of, reads, same, say
from tests.coding import sets_it


def are_fitting(code, lots):
    """Whether lots for all rows and the END are such as point 6.3 tells, the fewest or not."""
    for at, lot in enumerate(lots):
        for cell in range(code.cells):
            later = any(cell in lots[behind] for behind in next_of(code, at))
            due = reads(code, at, cell) or (later and not sets_it(code, at, cell))
            if due != (cell in lot):
                return False
    return True


class LiveTest(unittest.TestCase):

    def test_the_example(self):
        self.assertEqual(live(EXAMPLE), ((0, 1), (0, 1), (0,), (0,)))

    def test_no_rows(self):
        for outs in [(), (0,), (1,), (0, 1)]:
            self.assertEqual(live(Code(2, outs, ())), (outs,))

    def test_by_hand(self):
        # b is read by row 0 and 2, a by rows 0 and 1; behind row 3 b alone is wanted.
        self.assertEqual(live(ROUNDS), ((0, 1), (0, 1), (0, 1), (0, 1), (1,), (1,)))
        # d is read by row 0 alone, c by row 2, which sets b without reading it.
        self.assertEqual(live(TURNS), ((0, 1, 2, 3), (0, 1, 2), (0, 2), (0, 1), (0, 1)))

    def test_a_cell_that_a_row_sets_and_reads_is_live(self):
        code = Code(2, (0,), (at_once({0: (1, 0, 1)}),))
        self.assertEqual(live(code), ((0,), (0,)))
        # Even if nobody reads what is set.
        code = Code(2, (0,), (at_once({1: (0, 1, 1)}),))
        self.assertEqual(live(code), ((0, 1), (0,)))
        code = Code(2, (0,), (at_once({0: (0, 0, 1)}),))
        self.assertEqual(live(code), ((), (0,)))

    def test_the_number_added_is_no_cell(self):
        self.assertEqual(live(Code(2, (), (say(0, 0, 1), less((0, 0, 1), (0, 0, 2), 0), same((0, 0, 1), (0, 0, 1), 0)))),
                         ((), (), (), ()))

    def test_each_sum_of_a_test_reads(self):
        self.assertEqual(live(Code(3, (), (less((1, 0, 0, 0), (0, 0, 1, 0), 1),))), ((0, 2), ()))
        self.assertEqual(live(Code(3, (), (same((0, "-1/2", 0, 0), (0, 0, 1, 0), 0),))), ((1, 2), ()))

    def test_ways_of_tests(self):
        code = Code(2, (), (same((0, 0, 0), (0, 0, 1), 3), say(1, 0, 0), ("go", 4), say(0, 1, 0)))
        self.assertEqual(live(code), ((0, 1), (0,), (), (1,), ()))

    def test_go_does_not_reach_the_row_behind(self):
        code = Code(2, (1,), (("go", 2), say(1, 0, 0)))
        self.assertEqual(live(code), ((1,), (0, 1), (1,)))

    def test_rounds(self):
        # a is read at the next round, b at none.
        code = Code(2, (), (at_once({1: (1, 0, 0)}), ("go", 0)))
        self.assertEqual(live(code), ((0,), (0,), ()))
        # No larger one than needed: nobody reads a cell in a round without reading rows.
        code = Code(2, (0, 1), (("go", 1), ("go", 0)))
        self.assertEqual(live(code), ((), (), (0, 1)))

    def test_calls(self):
        # Behind the back row come rows 1 and 5, which do not want a any more.
        self.assertEqual(live(CALLS), ((0, 1, 2), (1, 2), (0, 1, 2), (0, 1, 2), (0, 1, 2), (1, 2), (1, 2), (1, 2)))
        # The called row is read with what is live behind it; a call row itself does not lead on.
        code = Code(3, (), (("call", 3), say(1, 0, 0, 0), ("go", 5), say(0, 1, 0, 0), ("back",)))
        self.assertEqual(live(code), ((0, 1), (0,), (), (0, 1), (0,), ()))
        # Without a back row the row behind the call is not reached by it.
        code = Code(3, (), (("call", 3), say(1, 0, 0, 0), ("go", 4), say(0, 1, 0, 0)))
        self.assertEqual(live(code), ((1,), (0,), (), (1,), ()))

    def test_calls_from_several_places(self):
        code = Code(3, (2,), (
            ("call", 5), say(1, 0, 0, 0), ("call", 5), say(0, 1, 0, 0), ("go", 7), at_once({2: (0, 0, 1, 1)}), ("back",)))
        # Behind the back row both rows behind calls may come.
        self.assertEqual(live(code), ((0, 1, 2), (0, 1, 2), (0, 1, 2), (1, 2), (2,), (0, 1, 2), (0, 1, 2), (2,)))

    def test_a_back_row_without_calls(self):
        self.assertEqual(live(Code(2, (0, 1), (say(1, 0, 0), ("back",)))), ((0,), (), (0, 1)))

    def test_a_call_as_the_last_row_leads_back_to_the_end(self):
        self.assertEqual(live(Code(2, (1,), (("back",), ("call", 0)))), ((1,), (1,), (1,)))

    def test_rows_that_nobody_reaches(self):
        code = Code(2, (0,), (("go", 3), say(0, 1, 0), at_once({0: (0, 1, 0)})))
        self.assertEqual(live(code), ((0,), (1,), (1,), (0,)))

    def test_against_a_second_reckoning(self):
        chance = random.Random(61)
        for _ in range(500):
            code = drawn_code(chance)
            self.assertEqual(live(code), live_of(code))
        for code in CODES:
            self.assertEqual(live(code), live_of(code))

    def test_it_is_the_fewest_of_all_that_fit(self):
        chance = random.Random(62)
        lots = [lot for size in range(3) for lot in combinations(range(2), size)]
        several = 0
        for _ in range(300):
            code = drawn_code(chance, 2)
            if len(code.rows) <= 4:
                fitting = [told for told in product(lots, repeat=len(code.rows) + 1) if are_fitting(code, told)]
                fewest = min(sum(map(len, told)) for told in fitting)
                self.assertEqual([told for told in fitting if sum(map(len, told)) == fewest], [live(code)])
                several += len(fitting) > 1
        self.assertGreater(several, 5)

    def test_forty_rows(self):
        rows = tuple(at_once({at % 5: [int(place == (at + 1) % 5) for place in range(6)]}) for at in range(39)) + (("go", 0),)
        self.assertEqual(live(Code(5, (), rows)), live_of(Code(5, (), rows)))


if __name__ == "__main__":
    unittest.main()
