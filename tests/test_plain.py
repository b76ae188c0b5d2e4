"""Point 6.2: plain."""

import random
import unittest

from oncetwice.codes import Code, plain
from oncetwice.errors import NoContents, NoNumber
from tests.coding import CALLS, CODES, EXAMPLE, ROUNDS, TURNS, WIDE, at_once, drawn_begins, drawn_code, less, same, say
from tests.coding import told_plainly
from tests.helping import deep, odd_numbers, odd_things, row, spoiled

NO_BEGINS = [(), row(1), row(1, 2, 3), list(row(1, 2)), [row(1, 2)], (1, 2), {0: (1, 1), 1: (1, 1)}, row(1, 2) * 5000,
             deep(row(1, 2), 36), *odd_things(), *spoiled(row(1, 2))]
NO_MOST = [-1, 10001, 10 ** 29, (1,), [1], "1", b"1", *odd_things()]


class PlainTest(unittest.TestCase):

    def test_the_example(self):
        self.assertEqual(plain(EXAMPLE, ((1, 1), (2, 1)), 9), (((1, 2),), "end", ((2, 1),)))

    def test_sets_of_several_cells_are_done_at_once(self):
        exchange = Code(2, (0, 1), (at_once({0: (0, 1, 0), 1: (1, 0, 0)}),))
        self.assertEqual(plain(exchange, row(5, "3/2"), 1), ((), "end", row("3/2", 5)))
        turn = Code(3, (0, 1, 2), (at_once({0: (0, 1, 0, 0), 2: (1, 0, 0, "1/2")}),))
        self.assertEqual(plain(turn, row(1, 2, 3), 1), ((), "end", row(2, 2, "3/2")))

    def test_sums_come_in_lowest_terms(self):
        code = Code(2, (0,), (say("1/6", "1/3", 0), say("1/2", "-1/2", 0), at_once({0: ("1/6", "1/3", "1/2")}), say(-1, 0, 0)))
        self.assertEqual(plain(code, row(1, 1), 9), (row("1/2", 0, -1), "end", row(1)))

    def test_less(self):
        for one, other, goes in [(1, 2, True), (2, 1, False), (1, 1, False), ("1/3", "1/2", True), ("1/2", "1/3", False),
                                 (-1, 0, True), ("-1/2", "-1/3", True), ("-1/3", "-1/2", False), (0, 0, False),
                                 ("2/3", "5/7", True), ("5/7", "2/3", False), (-2, 1, True)]:
            code = Code(2, (), (less((1, 0, 0), (0, 1, 0), 2), say(0, 0, 8), say(0, 0, 9)))
            self.assertEqual(plain(code, row(one, other), 9)[0], row(9) if goes else row(8, 9))

    def test_same(self):
        for one, other, goes in [(1, 2, False), (1, 1, True), ("1/2", "1/2", True), ("1/2", "-1/2", False), (0, 0, True)]:
            code = Code(2, (), (same((1, 0, 0), (0, 1, 0), 2), say(0, 0, 8), say(0, 0, 9)))
            self.assertEqual(plain(code, row(one, other), 9)[0], row(9) if goes else row(8, 9))
        halves = Code(2, (), (same((2, 0, 1), (0, 4, 0), 2), say(0, 0, 8), say(0, 0, 9)))
        self.assertEqual(plain(halves, row("1/2", "1/2"), 9)[0], row(9))

    def test_go_to_the_end_and_to_itself(self):
        self.assertEqual(plain(Code(1, (0,), (("go", 2), say(1, 0))), row(3), 9), ((), "end", row(3)))
        self.assertEqual(plain(Code(1, (0,), (("go", 0),)), row(3), 10000), ((), "on", None))

    def test_rounds(self):
        self.assertEqual(plain(ROUNDS, row(3, 0), 99), (row(3, 2, 1, 17), "end", row(17)))
        self.assertEqual(plain(ROUNDS, row(0, 5), 99), (row(5), "end", row(5)))
        self.assertEqual(plain(ROUNDS, row(-1, 0), 10), (row(-1, -2, -3), "on", None))

    def test_calls_and_ways_back(self):
        self.assertEqual(plain(CALLS, row(3, 0, 0), 999), ((), "end", row(6, 4)))
        self.assertEqual(plain(CALLS, row(0, 1, 0), 999), ((), "end", row(1, 1)))
        # The end is reached while rows are remembered.
        self.assertEqual(plain(Code(1, (0,), (("call", 1), ("call", 2))), row(4), 9), ((), "end", row(4)))
        # A call of the row behind it comes back to it once.
        self.assertEqual(plain(Code(1, (), (("call", 1), say(1, 0), ("back",))), row(4), 9), (row(4, 4), "fault", None))
        # A call of the last row goes back to the END.
        self.assertEqual(plain(Code(1, (), (("go", 2), ("back",), ("call", 1))), row(4), 9), ((), "end", ()))

    def test_twenty_and_twenty_one_calls_deep(self):
        chain = Code(1, (0,), tuple(("call", at + 1) for at in range(20)))
        self.assertEqual(plain(chain, row(1), 20), ((), "end", row(1)))
        longer = Code(1, (0,), tuple(("call", at + 1) for at in range(21)))
        self.assertEqual(plain(longer, row(1), 99), ((), "fault", None))
        self.assertEqual(plain(longer, row(1), 20), ((), "fault", None))
        self.assertEqual(plain(longer, row(1), 19), ((), "on", None))
        # CALLS remembers one row more than the rounds it makes.
        self.assertEqual(plain(CALLS, row(19, 0, 0), 999), ((), "end", row(38, 20)))
        self.assertEqual(plain(CALLS, row(20, 0, 0), 999), ((), "fault", None))
        self.assertEqual(plain(Code(1, (), (("call", 0),)), row(1), 9999), ((), "fault", None))

    def test_a_back_row_where_nothing_is_remembered(self):
        self.assertEqual(plain(Code(1, (0,), (say(2, 0), ("back",))), row(1), 9), (row(2), "fault", None))
        self.assertEqual(plain(Code(1, (0,), (("back",),)), row(1), 0), ((), "fault", None))
        twice = Code(1, (0,), (("call", 2), ("back",), ("back",)))
        self.assertEqual(plain(twice, row(1), 9), ((), "fault", None))

    def test_most_is_0(self):
        self.assertEqual(plain(EXAMPLE, row(1, 2), 0), ((), "on", None))
        self.assertEqual(plain(Code(2, (1,), ()), row(1, 2), 0), ((), "end", row(2)))
        self.assertEqual(plain(Code(2, (), ()), row(1, 2), 0), ((), "end", ()))
        self.assertEqual(plain(Code(2, (), (("back",),)), row(1, 2), 0), ((), "fault", None))

    def test_most_is_reached(self):
        # At a row, at the END, and beyond it.
        self.assertEqual([plain(EXAMPLE, row(1, 2), most)[1] for most in range(5)], ["on", "on", "on", "end", "end"])
        self.assertEqual([plain(EXAMPLE, row(1, 2), most)[0] for most in range(5)], [(), (), row("1/2"), row("1/2"), row("1/2")])
        self.assertEqual([plain(EXAMPLE, row(1, 2), most)[2] for most in range(5)], [None, None, None, row(2), row(2)])
        # At a fault, which is not done.
        code = Code(1, (0,), (say(1, 0), ("back",)))
        self.assertEqual([plain(code, row(1), most)[1] for most in range(4)], ["on", "fault", "fault", "fault"])

    def test_ten_thousand_rows(self):
        count = Code(1, (0,), (at_once({0: (1, 1)}), ("go", 0)))
        self.assertEqual(plain(count, row(0), 10000), ((), "on", None))
        until = Code(1, (0,), (at_once({0: (1, 1)}), less((1, 0), (0, 5000), 0)))
        self.assertEqual(plain(until, row(0), 10000), ((), "end", row(5000)))
        self.assertEqual(plain(until, row(0), 9999), ((), "on", None))

    def test_outs(self):
        for outs in [(), (0,), (1, 3), (0, 1, 2, 3, 4)]:
            code = Code(5, outs, WIDE.rows)
            self.assertEqual(plain(code, row(1, 2, 3, 4, 5), 3),
                             (row(2 + 30 + 400 + 5000 + 10000 + 100000), "end", row(*[[2, 3, 4, 5, 1][cell] for cell in outs])))

    def test_by_hand_with_tests(self):
        # 1 2 3 4 turns into 2 1 4 3; 2 is not less than 1; then a b d = 4 5/2 14; then a b c = 13/2 3/2 0.
        self.assertEqual(plain(TURNS, row(1, 2, 3, 4), 9), ((), "end", row("13/2", "3/2")))
        # 2 1 turns into 1 2, which is less: only the last row is done.
        self.assertEqual(plain(TURNS, row(2, 1, 3, 4), 9), ((), "end", row(3, -1)))

    def test_against_a_second_reckoning(self):
        chance = random.Random(52)
        words = []
        for _ in range(400):
            code = drawn_code(chance)
            begins = drawn_begins(chance, code)
            for most in (0, 1, 2, 3, 7, 12):
                told = plain(code, begins, most)
                self.assertEqual(told, told_plainly(code, begins, most))
            words.append(told[1])
        for word in ("end", "fault", "on"):
            self.assertGreater(words.count(word), 30)
        for code in CODES:
            for most in range(30):
                begins = drawn_begins(chance, code)
                self.assertEqual(plain(code, begins, most), told_plainly(code, begins, most))

    def test_what_was_returned_may_be_passed_on(self):
        held = row(3, "2/7")
        code = Code(2, (0, 1), (at_once({0: ("7/3", "-1/9", 10 ** 29), 1: (1, "1/11", 0)}),))
        for _ in range(20):
            expected = told_plainly(code, held, 1)
            held = plain(code, held, 1)[2]
            self.assertEqual(held, expected[2])
        self.assertGreater(held[0][0], 10 ** 30)

    def test_no_contents_comes_ahead_of_no_number(self):
        for begins in NO_BEGINS:
            for most in [5, -1, None]:
                with self.assertRaises(NoContents):
                    plain(EXAMPLE, begins, most)
        for bad in odd_numbers():
            with self.assertRaises(NoContents):
                plain(EXAMPLE, ((1, 1), bad), 5)

    def test_no_number(self):
        for most in NO_MOST:
            with self.assertRaises(NoNumber):
                plain(EXAMPLE, row(1, 2), most)
        self.assertEqual(plain(EXAMPLE, row(1, 2), 10000)[1], "end")


if __name__ == "__main__":
    unittest.main()
