"""Point 5.3: there_and_back, fewest_letters, the eighth fact."""

import random
import unittest
from itertools import permutations, product

from oncetwice.errors import NoOrder, NotOnto, TooMany
from oncetwice.letters import fewest_letters, there_and_back
from oncetwice.tables import Table, is_letters, letters_make
from tests.helping import odd_things
from tests.test_letters import EXCHANGE, NO_PASSES, contents, drawn_table


def there_and_back_of(order):
    return order + order[-2::-1] if len(order) > 1 else order


def fewest_to_all(letters, cells):
    """For all ends that letter programs reach the fewest writings."""
    begins = tuple(contents(letters, cells))
    writings = list(product(range(cells), product(range(letters), repeat=len(begins))))
    reached, newest, many = {begins: 0}, [begins], 0
    while newest:
        many += 1
        later = set()
        for ends in newest:
            for cell, row in writings:
                letters_now = [row[begins.index(content)] for content in ends]
                later.add(tuple(content[:cell] + (letter,) + content[cell + 1:]
                                for content, letter in zip(ends, letters_now)))
        newest = [ends for ends in later if ends not in reached]
        reached.update({ends: many for ends in newest})
    return reached


class ThereAndBackTest(unittest.TestCase):

    def check(self, table, order):
        program = there_and_back(table, order)
        self.assertIs(is_letters(table, program), True)
        self.assertEqual(tuple(cell for cell, _ in program), there_and_back_of(order))
        self.assertEqual(len(program), 2 * table.cells - 1)
        self.assertIs(letters_make(table, program), True)

    def test_one_cell(self):
        for letters in (2, 3):
            for ends in permutations(contents(letters, 1)):
                self.check(Table(letters, 1, ends), (0,))
        self.assertEqual(there_and_back(Table(3, 1, ((2,), (0,), (1,))), (0,)), ((0, (2, 0, 1)),))

    def test_all_of_two_letters_and_two_cells(self):
        for ends in permutations(contents(2, 2)):
            for order in [(0, 1), (1, 0)]:
                self.check(Table(2, 2, ends), order)

    def test_all_passes_of_drawn_ones(self):
        chance = random.Random(41)
        for letters, cells, many in [(2, 3, 20), (3, 2, 20), (2, 4, 4), (3, 3, 4)]:
            for _ in range(many):
                ends = contents(letters, cells)
                chance.shuffle(ends)
                for order in permutations(range(cells)):
                    self.check(Table(letters, cells, tuple(ends)), order)

    def test_the_largest_ones(self):
        chance = random.Random(42)
        for _ in range(4):
            ends = contents(3, 4)
            chance.shuffle(ends)
            self.check(Table(3, 4, tuple(ends)), tuple(chance.sample(range(4), 4)))

    def test_turned_and_exchanged_cells(self):
        for letters, cells in product((2, 3), (2, 3, 4)):
            for turn in [lambda c: c[1:] + c[:1], lambda c: c[::-1], lambda c: c]:
                ends = tuple(turn(content) for content in contents(letters, cells))
                self.check(Table(letters, cells, ends), tuple(range(cells)))

    def test_two_contents_exchanged(self):
        for letters, cells in [(2, 3), (3, 2), (2, 4)]:
            begins = contents(letters, cells)
            for other in begins[1:]:
                ends = list(begins)
                ends[0], ends[begins.index(other)] = other, begins[0]
                self.check(Table(letters, cells, tuple(ends)), tuple(range(cells)))

    def test_not_onto_comes_ahead_of_no_order(self):
        chance = random.Random(43)
        tables = [Table(2, 2, ((0, 0), (1, 0), (0, 1), (0, 1))), Table(2, 1, ((0,), (0,))),
                  Table(3, 4, ((0, 0, 0, 0),) * 81)]
        tables += [drawn_table(chance, 2, 3) for _ in range(20)]
        for table in tables:
            if len(set(table.ends)) < len(table.ends):
                for order in [tuple(range(table.cells)), (), (7,), None, [0, 1]]:
                    with self.assertRaises(NotOnto):
                        there_and_back(table, order)

    def test_not_onto_for_what_is_no_table(self):
        for thing in odd_things():
            if not (isinstance(thing, Table)):
                with self.assertRaises(NotOnto):
                    there_and_back(thing, (0,))

    def test_no_order(self):
        for order in NO_PASSES:
            with self.assertRaises(NoOrder):
                there_and_back(EXCHANGE, order)


class FewestLettersTest(unittest.TestCase):

    def test_the_example(self):
        self.assertEqual(fewest_letters(EXCHANGE), 3)

    def test_by_hand(self):
        self.assertEqual(fewest_letters(Table(2, 2, tuple(contents(2, 2)))), 0)
        self.assertEqual(fewest_letters(Table(2, 2, ((1, 1),) * 4)), 2)
        self.assertEqual(fewest_letters(Table(2, 2, ((1, 0), (0, 1), (1, 0), (1, 1)))), 1)
        self.assertEqual(fewest_letters(Table(3, 1, ((0,), (1,), (2,)))), 0)
        self.assertEqual(fewest_letters(Table(3, 1, ((1,), (1,), (0,)))), 1)

    def test_against_all_letter_programs(self):
        for letters, cells in [(2, 1), (3, 1), (2, 2)]:
            fewest = fewest_to_all(letters, cells)
            begins = contents(letters, cells)
            for ends in product(begins, repeat=len(begins)):
                self.assertEqual(fewest_letters(Table(letters, cells, ends)), fewest[ends])

    def test_two_contents_that_are_exchanged(self):
        begins = contents(2, 2)
        for one, other in product(range(4), repeat=2):
            if one != other:
                ends = list(begins)
                ends[one], ends[other] = ends[other], ends[one]
                unlike = sum(a != b for a, b in zip(begins[one], begins[other]))
                self.assertEqual(fewest_letters(Table(2, 2, tuple(ends))), 2 * unlike - 1)

    def check_too_many(self, thing):
        with self.assertRaises(TooMany) as caught:
            fewest_letters(thing)
        self.assertEqual(caught.exception.most, 4)

    def test_too_many(self):
        for letters, cells in [(2, 3), (3, 2), (2, 4), (3, 3), (3, 4)]:
            self.check_too_many(Table(letters, cells, tuple(contents(letters, cells))))

    def test_too_many_for_what_is_no_table(self):
        for thing in odd_things():
            if not isinstance(thing, Table):
                self.check_too_many(thing)


if __name__ == "__main__":
    unittest.main()
