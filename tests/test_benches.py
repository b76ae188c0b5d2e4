"""Point 8.1: Bench."""

import random
import unittest

from oncetwice.benches import Bench
from oncetwice.errors import IsLocked, NoCell, NoItem, NoNumber, NoOrder, NotLocked, NothingDone, NoWay
from oncetwice.fewest import shortest
from oncetwice.orders import fault
from oncetwice.wishes import Wish
from tests.helping import FAR, SWAP, TURN, deep, faults_of, odd_numbers, odd_things, row, singly, spoiled, wish

NO_CELLS = [2, 3, -1, 10 ** 29, (0,), [0], "0", b"0", *odd_things()]
NO_ITEMS = [(), row(1), row(1, 2, 3), list(row(1, 2)), 0, 1, (1, 2), "free", row(1, 2) * 5000, deep(row(1, 2), 36)]
NO_ITEMS += [thing for thing in [*odd_things(), *spoiled(row(1, 2))] if thing is not None]
NO_ITEMS += [((1, 1), bad) for bad in odd_numbers()]
NO_SPARES = [-1, 3, 10 ** 29, (1,), [1], "1", b"1", *odd_things()]
NO_ORDERS = [(2,), (-1,), (0, 1, 2), (0,) * 61, (True,), (False, 1), (0, None), ("0",), ((0,),), [0, 1, 0], [], 0,
             (10 ** 29,), deep(0, 36), (0,) * 20000, *odd_things()]


def shown(bench):
    """All that a bench tells, and what can be taken back and be done again, as its copy tells it."""
    other = bench.copy()
    told = [other.wish(), other.order(), other.deeds()]
    many = 0
    try:
        while True:
            other.redo()
            told += [other.wish(), other.order()]
            many += 1
    except NothingDone:
        pass
    while other.deeds():
        other.undo()
        told += [other.wish(), other.order()]
    return told + [many]


class Books:
    """What a bench is to show, kept by hand: all wishes and orders that there were, and which one is now."""

    def __init__(self, a_wish):
        self.all, self.at = [(a_wish, ())], 0

    def now(self):
        return self.all[self.at]

    def do(self, a_wish, order):
        self.all = self.all[:self.at + 1] + [(a_wish, order)]
        self.at += 1

    def copy(self):
        other = Books(None)
        other.all, other.at = list(self.all), self.at
        return other

    def shown(self):
        told = [*self.now(), self.at]
        for pair in self.all[self.at + 1:]:
            told += pair
        for pair in self.all[-2::-1]:
            told += pair
        return told + [len(self.all) - 1 - self.at]


def given(a_wish, cell, item):
    rows = a_wish.rows[:cell] + (item,) + a_wish.rows[cell + 1:]
    return Wish(rows, a_wish.locked, a_wish.spare)


def drawn_deed(chance, bench, books):
    """Does a deed at both, be it right or not; an error has to be the one that is due."""
    a_wish, order = books.now()
    many = len(a_wish.rows)
    way = chance.choice(["give", "give", "lock", "unlock", "spares", "keep", "settle", "undo", "undo", "redo", "redo"])
    cell = chance.randrange(-1, many + 1)
    right = 0 <= cell < many
    if way == "give":
        item = chance.choice([None, row(*[chance.randrange(3) for _ in range(many)]), row(*[1] * (many + 1))])
        due = NoCell if not right else NoItem if item is not None and len(item) != many else None
        behind = None if due else (given(a_wish, cell, item), order)
        return attempt(bench.give, (cell, item), due, books, behind)
    if way == "lock":
        due = NoCell if not right else IsLocked if cell in a_wish.locked else None
        behind = None if due else (Wish(a_wish.rows, tuple(sorted({*a_wish.locked, cell})), a_wish.spare), order)
        return attempt(bench.lock, (cell,), due, books, behind)
    if way == "unlock":
        due = NoCell if not right else NotLocked if cell not in a_wish.locked else None
        behind = None if due else (Wish(a_wish.rows, tuple(sorted({*a_wish.locked} - {cell})), a_wish.spare), order)
        return attempt(bench.unlock, (cell,), due, books, behind)
    if way == "spares":
        spare = chance.randrange(-1, 4)
        due = None if 0 <= spare <= 2 else NoNumber
        return attempt(bench.spares, (spare,), due, books, None if due else (Wish(a_wish.rows, a_wish.locked, spare), order))
    if way == "keep":
        kept = tuple(chance.randrange(many + 1) for _ in range(chance.randrange(6)))
        due = None if all(one < many + a_wish.spare for one in kept) else NoOrder
        return attempt(bench.keep, (kept,), due, books, (a_wish, kept))
    if way == "settle":
        kept = shortest(a_wish)
        return attempt(bench.settle, (), NoWay if kept is None else None, books, (a_wish, kept))
    step = -1 if way == "undo" else 1
    if not 0 <= books.at + step < len(books.all):
        return attempt(bench.undo if way == "undo" else bench.redo, (), NothingDone, books, None)
    books.at += step
    return (bench.undo if way == "undo" else bench.redo)()


def attempt(action, arguments, due, books, behind):
    try:
        told = action(*arguments)
    except (NoCell, NoItem, IsLocked, NotLocked, NoNumber, NoOrder, NoWay, NothingDone) as error:
        assert type(error) is due, (action, arguments, error, due)
        return None
    assert due is None and told is None, (action, arguments, due)
    books.do(*behind)
    return None


class BenchTest(unittest.TestCase):

    def test_at_first(self):
        bench = Bench(FAR)
        self.assertEqual((bench.wish(), bench.order(), bench.deeds()), (FAR, (), 0))
        self.assertIs(type(bench.wish()), Wish)

    def test_give(self):
        bench = Bench(FAR)
        self.assertIsNone(bench.give(1, row(1, 0)))
        self.assertEqual(bench.wish(), SWAP)
        bench.give(0, None)
        self.assertEqual(bench.wish(), wish([None, (1, 0)]))
        bench.give(0, row("1/2", "-2/3"))
        self.assertEqual(bench.wish(), wish([("1/2", "-2/3"), (1, 0)]))
        self.assertEqual((bench.order(), bench.deeds()), ((), 3))
        self.assertEqual(FAR, wish([(0, 1), (1, 1)]))

    def test_lock_and_unlock(self):
        bench = Bench(TURN)
        for cell in (2, 0, 1):
            self.assertIsNone(bench.lock(cell))
        self.assertEqual(bench.wish().locked, (0, 1, 2))
        self.assertIsNone(bench.unlock(1))
        self.assertEqual(bench.wish(), Wish(TURN.rows, (0, 2), 0))
        self.assertEqual(bench.deeds(), 4)

    def test_spares_keep_and_fault(self):
        bench = Bench(SWAP)
        self.assertIsNone(bench.spares(1))
        self.assertEqual(bench.wish(), Wish(SWAP.rows, (), 1))
        self.assertIsNone(bench.keep((2, 0, 1)))
        self.assertEqual(bench.order(), (2, 0, 1))
        self.assertIsNone(bench.fault())
        bench.keep((0, 1))
        self.assertEqual(bench.fault(), ("moment", 1, (1,)))
        bench.keep(())
        self.assertEqual(bench.fault(), ("never", 0))
        bench.lock(1)
        bench.keep((0, 1))
        self.assertEqual(bench.fault(), ("locked", 1))

    def test_an_order_with_spare_cells_that_are_no_more_is_kept(self):
        bench = Bench(Wish(SWAP.rows, (), 2))
        bench.keep((2, 0, 1))
        bench.spares(0)
        self.assertEqual(bench.order(), (2, 0, 1))
        with self.assertRaises(NoOrder):
            bench.fault()
        with self.assertRaises(NoOrder):
            bench.keep((2, 0, 1))
        self.assertEqual((bench.order(), bench.deeds()), ((2, 0, 1), 2))
        bench.give(0, row(1, 1))
        self.assertEqual(bench.order(), (2, 0, 1))
        bench.spares(1)
        self.assertIsNone(bench.fault())
        for _ in range(3):
            bench.undo()
        self.assertEqual((bench.wish().spare, bench.order()), (2, (2, 0, 1)))

    def test_settle(self):
        bench = Bench(SWAP)
        self.assertIsNone(bench.settle())
        self.assertEqual((bench.order(), bench.deeds()), ((0, 1, 0), 1))
        bench.give(1, row(1, 1))
        self.assertEqual(bench.order(), (0, 1, 0))
        bench.settle()
        self.assertEqual(bench.order(), (1, 0))
        bench.lock(0)
        before = shown(bench)
        with self.assertRaises(NoWay):
            bench.settle()
        self.assertEqual(shown(bench), before)
        bench.give(0, None)
        bench.settle()
        self.assertEqual(bench.order(), (1,))
        bench.give(1, row(0, 1))
        bench.settle()
        self.assertEqual(bench.order(), ())

    def test_a_deed_that_changes_nothing_counts_too(self):
        bench = Bench(SWAP)
        bench.give(0, SWAP.rows[0])
        bench.spares(0)
        bench.keep(())
        self.assertEqual((bench.wish(), bench.deeds()), (SWAP, 3))
        bench.undo()
        self.assertEqual(bench.deeds(), 2)

    def test_undo_and_redo(self):
        bench = Bench(FAR)
        for action in (bench.undo, bench.redo):
            with self.assertRaises(NothingDone):
                action()
        bench.give(1, row(1, 0))
        bench.settle()
        bench.spares(2)
        self.assertIsNone(bench.undo())
        self.assertEqual((bench.wish(), bench.order(), bench.deeds()), (SWAP, (0, 1, 0), 2))
        bench.undo()
        self.assertEqual((bench.wish(), bench.order(), bench.deeds()), (SWAP, (), 1))
        self.assertIsNone(bench.redo())
        self.assertEqual((bench.wish(), bench.order(), bench.deeds()), (SWAP, (0, 1, 0), 2))
        bench.redo()
        self.assertEqual(bench.wish(), Wish(SWAP.rows, (), 2))
        with self.assertRaises(NothingDone):
            bench.redo()
        for _ in range(3):
            bench.undo()
        self.assertEqual((bench.wish(), bench.order(), bench.deeds()), (FAR, (), 0))
        with self.assertRaises(NothingDone):
            bench.undo()
        bench.redo()
        self.assertEqual((bench.wish(), bench.deeds()), (SWAP, 1))

    def test_redo_is_gone_behind_a_new_deed_alone(self):
        bench = Bench(SWAP)
        bench.lock(0)
        bench.lock(1)
        bench.undo()
        # An error is no deed.
        for action, arguments in [(bench.lock, (0,)), (bench.give, (5, None)), (bench.spares, (9,)), (bench.settle, ())]:
            with self.assertRaises((IsLocked, NoCell, NoNumber, NoWay)):
                action(*arguments)
        bench.fault()
        bench.redo()
        self.assertEqual(bench.wish().locked, (0, 1))
        bench.undo()
        bench.keep((1,))
        with self.assertRaises(NothingDone):
            bench.redo()
        self.assertEqual((bench.wish().locked, bench.order(), bench.deeds()), ((0,), (1,), 2))

    def test_long_rows_of_deeds_against_books_kept_by_hand(self):
        chance = random.Random(101)
        for first in [SWAP, FAR, TURN, wish([None]), wish([(0, 1, 0), (1, 0, 0), None], (2,), 2)]:
            for _ in range(3):
                bench, books = Bench(first), Books(first)
                for _ in range(80):
                    drawn_deed(chance, bench, books)
                    self.assertEqual((bench.wish(), bench.order(), bench.deeds()), (*books.now(), books.at))
                self.assertEqual(shown(bench), books.shown())
                while books.at:
                    books.at -= 1
                    bench.undo()
                    self.assertEqual((bench.wish(), bench.order(), bench.deeds()), (*books.now(), books.at))
                while books.at < len(books.all) - 1:
                    books.at += 1
                    bench.redo()
                    self.assertEqual((bench.wish(), bench.order(), bench.deeds()), (*books.now(), books.at))

    def test_fault_of_what_is_kept(self):
        chance = random.Random(102)
        for _ in range(60):
            bench = Bench(wish([[chance.randrange(2) for _ in range(3)] for _ in range(3)]))
            if chance.random() < 0.3:
                bench.lock(chance.randrange(3))
            order = tuple(chance.randrange(3) for _ in range(chance.randrange(6)))
            bench.keep(order)
            found = faults_of(bench.wish(), singly(order))
            self.assertEqual(bench.fault(), fault(bench.wish(), order))
            self.assertEqual(bench.fault() is None, not found)

    def test_copies_go_on_apart(self):
        chance = random.Random(103)
        for _ in range(12):
            pairs = [(Bench(TURN), Books(TURN))]
            for _ in range(60):
                bench, books = chance.choice(pairs)
                if chance.random() < 0.1 and len(pairs) < 4:
                    pairs.append((bench.copy(), books.copy()))
                    self.assertIs(type(pairs[-1][0]), Bench)
                else:
                    drawn_deed(chance, bench, books)
            for bench, books in pairs:
                self.assertEqual(shown(bench), books.shown())

    def test_what_it_told_stays_as_it_was(self):
        bench = Bench(SWAP)
        told, order = bench.wish(), bench.order()
        bench.give(0, None)
        bench.settle()
        self.assertEqual((told, order), (wish([(0, 1), (1, 0)]), ()))

    def test_it_is_equal_to_nothing_else(self):
        for thing in odd_things():
            self.assertFalse(Bench(SWAP) == thing)


class TryingTest(unittest.TestCase):

    def bench(self):
        """One with deeds that can be taken back and such that can be done again."""
        bench = Bench(FAR)
        bench.give(1, row(1, 0))
        bench.settle()
        bench.lock(1)
        bench.spares(2)
        bench.undo()
        bench.undo()
        return bench

    def test_what_the_function_returns(self):
        bench = self.bench()
        seen = []

        def action(given_bench):
            seen.append(given_bench is bench)
            given_bench.give(0, None)
            given_bench.settle()
            return [given_bench.order(), given_bench.deeds()]

        before = shown(bench)
        self.assertEqual(bench.trying(action), [(1,), 4])
        self.assertEqual(seen, [True])
        self.assertEqual(shown(bench), before)
        self.assertIsNone(bench.trying(lambda _: None))
        self.assertIs(bench.trying(lambda one: one), bench)

    def test_what_can_be_done_again_is_there_again(self):
        bench = self.bench()
        bench.trying(lambda one: one.keep((0,)))
        bench.redo()
        self.assertEqual(bench.wish().locked, (1,))
        bench.redo()
        self.assertEqual(bench.wish().spare, 2)
        with self.assertRaises(NothingDone):
            bench.redo()

    def test_undo_and_redo_within(self):
        bench = self.bench()
        before = shown(bench)

        def action(one):
            while one.deeds():
                one.undo()
            told = one.wish()
            for _ in range(4):
                one.redo()
            return (told, one.wish())

        self.assertEqual(bench.trying(action), (FAR, Wish(SWAP.rows, (1,), 2)))
        self.assertEqual(shown(bench), before)

    def test_errors_go_on(self):
        bench = self.bench()
        before = shown(bench)

        def with_own_error(one):
            one.spares(1)
            raise KeyError("own")

        def with_error_of_a_deed(one):
            one.lock(0)
            one.lock(0)

        def with_nothing_done(one):
            one.undo()
            one.undo()
            one.undo()

        for action, error in [(with_own_error, KeyError), (with_error_of_a_deed, IsLocked), (with_nothing_done, NothingDone)]:
            with self.assertRaises(error):
                bench.trying(action)
            self.assertEqual(shown(bench), before)

    def test_trials_within_trials(self):
        bench = self.bench()
        before = shown(bench)

        def inner(one):
            one.unlock(0)
            one.undo()
            one.undo()
            one.keep((1, 1))
            return shown(one)

        def failing(one):
            one.undo()
            raise ValueError("no")

        def outer(one):
            one.lock(0)
            here = shown(one)
            told = one.trying(inner)
            self.assertEqual(shown(one), here)
            with self.assertRaises(ValueError):
                one.trying(failing)
            self.assertEqual(shown(one), here)
            one.undo()
            one.redo()
            self.assertEqual(shown(one), here)
            return told

        told = bench.trying(outer)
        self.assertEqual(told[:3], [SWAP, (1, 1), 3])
        self.assertEqual(shown(bench), before)

    def test_copies_within_trials(self):
        bench = self.bench()
        before = shown(bench)

        def action(one):
            one.lock(0)
            other = one.copy()
            other.lock(1)
            one.undo()
            return other

        other = bench.trying(action)
        self.assertEqual(shown(bench), before)
        self.assertEqual((other.wish().locked, other.deeds()), ((0, 1), 4))
        other.undo()
        other.undo()
        self.assertEqual((other.wish(), other.order()), (SWAP, (0, 1, 0)))
        self.assertEqual(shown(bench), before)

    def test_trials_at_random(self):
        chance = random.Random(104)
        for _ in range(20):
            bench, books = Bench(TURN), Books(TURN)
            for _ in range(30):
                drawn_deed(chance, bench, books)
            before = shown(bench)

            def action(one, inner, depth):
                for _ in range(chance.randrange(15)):
                    drawn_deed(chance, one, inner)
                self.assertEqual(shown(one), inner.shown())
                if depth < 3:
                    told = one.trying(lambda again: action(again, inner.copy(), depth + 1))
                    self.assertEqual(told, depth + 1)
                    self.assertEqual(shown(one), inner.shown())
                return depth

            self.assertEqual(bench.trying(lambda one: action(one, books.copy(), 0)), 0)
            self.assertEqual(shown(bench), before)
            self.assertEqual(shown(bench), books.shown())


class ErrorsTest(unittest.TestCase):

    def setUp(self):
        self.bench = Bench(wish([(0, 1), (1, 0)], (1,), 1))
        self.bench.keep((2, 0))
        self.bench.give(0, row(1, 1))
        self.bench.undo()
        self.before = shown(self.bench)

    def tearDown(self):
        self.assertEqual(shown(self.bench), self.before)

    def check(self, error, action, *arguments):
        with self.assertRaises(error):
            action(*arguments)

    def test_no_cell_comes_ahead(self):
        for cell in NO_CELLS:
            self.check(NoCell, self.bench.give, cell, row(1, 1))
            self.check(NoCell, self.bench.give, cell, row(1))
            self.check(NoCell, self.bench.lock, cell)
            self.check(NoCell, self.bench.unlock, cell)

    def test_no_item(self):
        for item in NO_ITEMS:
            self.check(NoItem, self.bench.give, 0, item)

    def test_is_locked_and_not_locked(self):
        self.check(IsLocked, self.bench.lock, 1)
        self.check(NotLocked, self.bench.unlock, 0)

    def test_no_number(self):
        for many in NO_SPARES:
            self.check(NoNumber, self.bench.spares, many)

    def test_no_order(self):
        for order in [(3,), *[one for one in NO_ORDERS if one not in [(2,), (0, 1, 2)]]]:
            self.check(NoOrder, self.bench.keep, order)

    def test_no_way(self):
        self.check(NoWay, self.bench.settle)


if __name__ == "__main__":
    unittest.main()
