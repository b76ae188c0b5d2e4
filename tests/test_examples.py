"""The examples e01 to e09, as the document tells them."""

import unittest

from oncetwice.codes import live, plain
from oncetwice.compiling import cost
from oncetwice.fewest import count_shortest, fewest, ladder, shortest, ticks
from oncetwice.letters import collision, fewest_letters
from oncetwice.moving import moved, moves
from oncetwice.onto import serves_all, undone
from oncetwice.orders import fault, lack, stages
from oncetwice.sources import source, translated
from oncetwice.tables import Table
from oncetwice.wishes import Wish, makes

swap = Wish((((0, 1), (1, 1)), ((1, 1), (0, 1))), (), 0)
far = Wish((((0, 1), (1, 1)), ((1, 1), (1, 1))), (), 0)


class ExamplesTest(unittest.TestCase):

    def test_e01(self):
        self.assertEqual((fewest(swap), shortest(swap)), (3, (0, 1, 0)))
        self.assertEqual(fewest(far), 2)
        self.assertEqual(shortest(far), (1, 0))

    def test_e02(self):
        self.assertEqual(fault(far, (0, 1)), ("moment", 1, (1,)))
        self.assertEqual(lack(far, (0, 1), 1), (1, 0))
        self.assertEqual(stages(swap, (0, 1, 0), 2), ("amid", "done"))

    def test_e03(self):
        program = ((0, ((1, 1), (1, 1))), (1, ((1, 1), (-1, 1))), (0, ((1, 1), (-1, 1))))
        self.assertIs(makes(swap, program), True)
        self.assertEqual(count_shortest(swap), 2)

    def test_e04(self):
        self.assertEqual(moves((1, 2, 0), 0), 4)
        self.assertEqual(moves((1, 0, 3, 2), 0), 6)
        self.assertEqual(moves((1, 0, 3, 2), 1), 5)
        self.assertEqual(moves((1, 0, 0), 0), 3)

    def test_e05(self):
        self.assertEqual(ladder(moved((1, 0, 3, 2)), 2), (6, 5, 5))
        self.assertEqual(ticks(swap, 2), 1)

    def test_e06(self):
        self.assertIs(serves_all(2, 0, (0, 1, 0)), True)
        self.assertIs(serves_all(3, 0, (0, 1, 2, 0)), False)
        self.assertIs(undone(far) == Wish((((-1, 1), (1, 1)), ((1, 1), (0, 1))), (), 0), True)

    def test_e07(self):
        table = Table(2, 2, ((0, 0), (1, 0), (0, 1), (1, 1)))
        self.assertEqual(fewest_letters(table), 3)
        self.assertEqual(collision(table, (0, 1)), (1, (0, 0), (1, 0)))

    def test_e08(self):
        code = translated("cells a b\nouts a\na b = b a+b\nsay a-1/2b\nb = 0\n")
        self.assertEqual(code.rows[1], ("say", ((1, 1), (-1, 2), (0, 1))))
        self.assertEqual(live(code), ((0, 1), (0, 1), (0,), (0,)))
        self.assertEqual(cost(code, 0), 2)
        self.assertEqual(plain(code, ((1, 1), (2, 1)), 9), (((1, 2),), "end", ((2, 1),)))

    def test_e09(self):
        code = translated("cells a b\nouts a\na b = b a+b\nsay a-1/2b\nb = 0\n")
        self.assertEqual(source(code), "cells a b\nouts a\na b = b a+b\nsay a-1/2b\nb = 0\n")


if __name__ == "__main__":
    unittest.main()
