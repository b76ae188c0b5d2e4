"""Point 5.2: collision, one_pass, the seventh fact."""

import random
import unittest
from itertools import permutations, product

from oncetwice.errors import NoOrder
from oncetwice.letters import collision, one_pass
from oncetwice.tables import Table, is_letters, letters_make
from tests.helping import deep, odd_things

EXCHANGE = Table(2, 2, ((0, 0), (1, 0), (0, 1), (1, 1)))
# Cell 0 is to tell whether both letters are unlike, cell 1 gets what cell 0 holds.
TURN = Table(2, 2, ((0, 0), (1, 0), (1, 1), (0, 1)))
NO_PASSES = [
    (), (0,), (1,), (0, 0), (1, 1), (0, 2), (2, 0), (-1, 0), (0, 1, 0), (0, 1, 2), (False, True), (False, 1), (0, True),
    [0, 1], [], ["0", "1"], (0, "1"), (0, None), ((0,), (1,)), (0, (1,)), 0, 1, "01", b"01", b"\x00\x01", range(2), {0: 1},
    (0, 10 ** 29), (10 ** 29, 0), deep((0, 1), 36), (0, 1) * 10000, *odd_things()]


def contents(letters, cells):
    return list(product(range(letters), repeat=cells))


def led(table, order, moment):
    """Where each content is led by so many writings of ends."""
    told = []
    for begin, end in zip(contents(table.letters, table.cells), table.ends):
        content = list(begin)
        for cell in order[:moment]:
            content[cell] = end[cell]
        told.append(content)
    return told


def collision_of(table, order):
    """The least collision, of all moments and of all pairs of contents."""
    begins = contents(table.letters, table.cells)
    found = []
    for moment in range(table.cells + 1):
        states = led(table, order, moment)
        for one, other in product(range(len(begins)), repeat=2):
            if one < other and states[one] == states[other] and table.ends[one] != table.ends[other]:
                found.append((moment, begins[one], begins[other]))
    return min(found) if found else None


def drawn_table(chance, letters, cells):
    """A table of drawn ends: any, few unlike ones, some cells changed, or contents exchanged."""
    begins = contents(letters, cells)
    way = chance.randrange(4)
    if way == 0:
        ends = [chance.choice(begins) for _ in begins]
    elif way == 1:
        few = chance.sample(begins, 2)
        ends = [chance.choice(few) for _ in begins]
    elif way == 2:
        ends = list(begins)
        for _ in range(chance.randrange(1, 3)):
            ends[chance.randrange(len(ends))] = chance.choice(begins)
    else:
        cell = chance.randrange(cells)
        ends = [begin[:cell] + (chance.randrange(letters),) + begin[cell + 1:] for begin in begins]
    return Table(letters, cells, tuple(ends))


def all_ends_of_passes(order):
    """The ends to which all letter programs of a pass of two cells of two letters lead."""
    begins = contents(2, 2)
    found = set()
    for rows in product(product((0, 1), repeat=4), repeat=2):
        ends = []
        for begin in begins:
            content = list(begin)
            for cell, row in zip(order, rows):
                content[cell] = row[begins.index(tuple(content))]
            ends.append(tuple(content))
        found.add(tuple(ends))
    return found


class CollisionTest(unittest.TestCase):

    def test_the_example(self):
        self.assertEqual(collision(EXCHANGE, (0, 1)), (1, (0, 0), (1, 0)))

    def test_by_hand(self):
        # Cell 1 is written first: (0, 0) stays, (0, 1) becomes (0, 0), too.
        self.assertEqual(collision(EXCHANGE, (1, 0)), (1, (0, 0), (0, 1)))
        self.assertIsNone(collision(TURN, (0, 1)))
        self.assertEqual(collision(TURN, (1, 0)), (1, (0, 0), (0, 1)))

    def test_all_ends_are_one(self):
        for letters, cells in product((2, 3), (1, 2, 3, 4)):
            end = (letters - 1,) * cells
            table = Table(letters, cells, (end,) * letters ** cells)
            self.assertIsNone(collision(table, tuple(range(cells))))
            self.assertIsNone(collision(table, tuple(reversed(range(cells)))))

    def test_nothing_is_to_change(self):
        for letters, cells in product((2, 3), (1, 2, 3, 4)):
            table = Table(letters, cells, tuple(contents(letters, cells)))
            self.assertIsNone(collision(table, tuple(range(cells))))

    def test_one_cell_has_no_collision(self):
        for letters in (2, 3):
            for ends in product(contents(letters, 1), repeat=letters):
                self.assertIsNone(collision(Table(letters, 1, ends), (0,)))

    def test_all_tables_of_two_letters_and_two_cells(self):
        for ends in product(contents(2, 2), repeat=4):
            for order in [(0, 1), (1, 0)]:
                table = Table(2, 2, ends)
                self.assertEqual(collision(table, order), collision_of(table, order))

    def test_other_tables_and_all_their_passes(self):
        chance = random.Random(31)
        for letters, cells, many in [(2, 3, 40), (3, 2, 60), (2, 4, 8), (3, 3, 6)]:
            for _ in range(many):
                table = drawn_table(chance, letters, cells)
                for order in permutations(range(cells)):
                    self.assertEqual(collision(table, order), collision_of(table, order))

    def test_the_largest_tables(self):
        chance = random.Random(32)
        for _ in range(4):
            table = drawn_table(chance, 3, 4)
            order = tuple(chance.sample(range(4), 4))
            self.assertEqual(collision(table, order), collision_of(table, order))

    def test_a_later_moment(self):
        # Cells 0 and 1 are written without loss; then cell 2 is, though cell 3 needs it.
        ends = tuple((a, b, d, c) for a, b, c, d in contents(2, 4))
        self.assertEqual(collision(Table(2, 4, ends), (0, 1, 2, 3)), (3, (0, 0, 0, 0), (0, 0, 1, 0)))
        self.assertEqual(collision(Table(2, 4, ends), (3, 1, 0, 2)), (1, (0, 0, 0, 0), (0, 0, 0, 1)))

    def test_no_order(self):
        for order in NO_PASSES:
            with self.assertRaises(NoOrder):
                collision(EXCHANGE, order)
        for order in [(0, 1), (0, 1, 2, 3), (0, 1, 1), (1, 2, 3)]:
            with self.assertRaises(NoOrder):
                collision(Table(2, 3, tuple(contents(2, 3))), order)


class OnePassTest(unittest.TestCase):

    def check(self, table, order):
        """Whether what is told is right; returns whether there is a program."""
        program = one_pass(table, order)
        self.assertEqual(program is None, collision_of(table, order) is not None)
        if program is None:
            return False
        self.assertIs(is_letters(table, program), True)
        self.assertEqual(tuple(cell for cell, _ in program), order)
        self.assertIs(letters_make(table, program), True)
        return True

    def test_by_hand(self):
        self.assertIsNone(one_pass(EXCHANGE, (0, 1)))
        self.assertEqual(one_pass(TURN, (0, 1)), ((0, (0, 1, 1, 0)), (1, (0, 1, 1, 0))))
        self.assertIsNone(one_pass(TURN, (1, 0)))
        self.assertEqual(one_pass(Table(3, 1, ((1,), (2,), (2,))), (0,)), ((0, (1, 2, 2)),))

    def test_against_all_letter_programs(self):
        for order in [(0, 1), (1, 0)]:
            reached = all_ends_of_passes(order)
            for ends in product(contents(2, 2), repeat=4):
                self.assertIs(self.check(Table(2, 2, ends), order), ends in reached)

    def test_other_tables(self):
        chance = random.Random(33)
        counts = [0, 0]
        for letters, cells, many in [(2, 1, 4), (3, 1, 6), (2, 3, 40), (3, 2, 60), (2, 4, 10), (3, 3, 10), (3, 4, 3)]:
            for _ in range(many):
                table = drawn_table(chance, letters, cells)
                order = tuple(chance.sample(range(cells), cells))
                counts[self.check(table, order)] += 1
        self.assertGreater(min(counts), 20)

    def test_equal_calls_give_equal_answers(self):
        self.assertEqual(one_pass(TURN, (0, 1)), one_pass(TURN, (0, 1)))

    def test_no_order(self):
        for order in NO_PASSES:
            with self.assertRaises(NoOrder):
                one_pass(EXCHANGE, order)
            with self.assertRaises(NoOrder):
                one_pass(Table(2, 2, ((1, 0),) * 4), order)


if __name__ == "__main__":
    unittest.main()
