"""Benches: a wish that changes while an order is kept, with all deeds, which can be taken back."""

from oncetwice.errors import IsLocked, NoCell, NoItem, NoNumber, NotLocked, NothingDone, NoWay
from oncetwice.fewest import shortest
from oncetwice.kinds import is_from_to, is_row
from oncetwice.moments import check_order
from oncetwice.orders import fault
from oncetwice.wishes import MOST_SPARE, Wish


class Bench:
    """A wish and an order that is kept, both as they are now, as they were, and as they can be again."""

    def __init__(self, wish):
        self._now = (wish, ())
        self._past = []
        self._later = []

    def wish(self):
        """The Wish as it is now."""
        return self._now[0]

    def order(self):
        """The order that is kept."""
        return self._now[1]

    def give(self, cell, row):
        """Gives a cell another item of the rows of the wish."""
        wish, order = self._now
        check_cell(wish, cell)
        if row is not None and not is_row(row, len(wish.rows)):
            raise NoItem()
        rows = wish.rows[:cell] + (row,) + wish.rows[cell + 1:]
        self._do(Wish(rows, wish.locked, wish.spare), order)

    def lock(self, cell):
        """Locks a cell."""
        wish, order = self._now
        check_cell(wish, cell)
        if cell in wish.locked:
            raise IsLocked()
        self._do(Wish(wish.rows, tuple(sorted([*wish.locked, cell])), wish.spare), order)

    def unlock(self, cell):
        """Unlocks a cell."""
        wish, order = self._now
        check_cell(wish, cell)
        if cell not in wish.locked:
            raise NotLocked()
        locked = tuple([other for other in wish.locked if other != cell])
        self._do(Wish(wish.rows, locked, wish.spare), order)

    def spares(self, many):
        """Has so many spare cells; an order is kept even if some of its cells are no more."""
        if not is_from_to(many, 0, MOST_SPARE):
            raise NoNumber()
        wish, order = self._now
        self._do(Wish(wish.rows, wish.locked, many), order)

    def keep(self, order):
        """Keeps an order, whether it is good or not."""
        check_order(self._now[0], order)
        self._do(self._now[0], order)

    def settle(self):
        """Keeps the shortest order."""
        order = shortest(self._now[0])
        if order is None:
            raise NoWay()
        self._do(self._now[0], order)

    def fault(self):
        """The first fault of the order that is kept, None for a good one."""
        wish, order = self._now
        return fault(wish, order)

    def undo(self):
        """Takes back the last deed that is not taken back."""
        if not self._past:
            raise NothingDone()
        self._later.append(self._now)
        self._now = self._past.pop()

    def redo(self):
        """Does the deed again that was taken back last."""
        if not self._later:
            raise NothingDone()
        self._past.append(self._now)
        self._now = self._later.pop()

    def deeds(self):
        """How many deeds can be taken back."""
        return len(self._past)

    def copy(self):
        """Another Bench with all deeds, which goes on apart."""
        other = Bench(self.wish())
        other._now = self._now
        other._past = list(self._past)
        other._later = list(self._later)
        return other

    def trying(self, action):
        """What a function returns that is called with this bench; all is as it was behind it."""
        now, past, later = self._now, list(self._past), list(self._later)
        try:
            return action(self)
        finally:
            self._now, self._past, self._later = now, past, later

    def _do(self, wish, order):
        """Does a deed behind which there are this wish and this order."""
        self._past.append(self._now)
        self._now = (wish, order)
        self._later = []


def check_cell(wish, cell):
    """Raises NoCell for what is no cell of the wish, spare ones not being any."""
    if not is_from_to(cell, 0, len(wish.rows) - 1):
        raise NoCell()
