"""One-to-one wishes: undone, one behind the other, side by side, and orders that serve all of them.

An error is named for the wishes of some functions, so these raise it for what is no wish, too.
"""

from oncetwice.errors import NoNumber, NotAlike, NotOnto, NotWhole, TooMany
from oncetwice.kinds import is_from_to
from oncetwice.moments import AMID, DONE, NOT_BEGUN, check_order, single_ticks, stages_at
from oncetwice.moving import moved
from oncetwice.ranks import multiples_for, span_of
from oncetwice.sums import NOUGHT, nought_row, unit_row, weighed_rows
from oncetwice.wishes import MOST_CELLS, MOST_SPARE, Wish

TWICE = (2, 1)


def is_whole_wish(thing):
    """Whether a thing is a wish without free cells."""
    return isinstance(thing, Wish) and not any([row is None for row in thing.rows])


def is_onto(wish):
    """Whether every cell has a wish, and their rows are free of one another."""
    return is_whole_wish(wish) and len(span_of(wish.rows)) == len(wish.rows)


def undone(wish):
    """The Wish that takes back this one, with its locked and spare cells."""
    if not is_onto(wish):
        raise NotOnto()
    many = len(wish.rows)
    rows = [multiples_for(unit_row(cell, many), wish.rows) for cell in range(many)]
    return Wish(tuple(rows), wish.locked, wish.spare)


def are_wishes(one, other):
    """Whether both things are wishes."""
    return isinstance(one, Wish) and isinstance(other, Wish)


def behind(wish, other):
    """The Wish that is this one and then the other one, with locked and spare cells of this one."""
    if not are_wishes(wish, other) or len(wish.rows) != len(other.rows):
        raise NotAlike()
    if not is_whole_wish(wish):
        raise NotWhole()
    rows = [None if row is None else weighed_rows(row, wish.rows) for row in other.rows]
    return Wish(tuple(rows), wish.locked, wish.spare)


def beside(wish, other):
    """The Wish that is both, the cells of the other one behind, with the spare cells of this one."""
    if not are_wishes(wish, other) or len(wish.rows) + len(other.rows) > MOST_CELLS:
        raise TooMany(MOST_CELLS)
    many = len(wish.rows)
    rows = shifted(wish.rows, 0, len(other.rows)) + shifted(other.rows, many, 0)
    return Wish(rows, wish.locked + tuple([many + cell for cell in other.locked]), wish.spare)


def shifted(rows, ahead, after):
    """These rows with so many more cells ahead and after, of which they take nothing."""
    left, right = nought_row(ahead), nought_row(after)
    return tuple([None if row is None else left + row + right for row in rows])


def serves_all(cells, spare, order):
    """Whether an order is good for every onto wish of so many cells, with so many spare ones."""
    return beaten(cells, spare, order) is None


def beaten(cells, spare, order):
    """An onto Wish for which an order is not good, None if there is none."""
    if not is_from_to(cells, 1, MOST_CELLS) or not is_from_to(spare, 0, MOST_SPARE):
        raise NoNumber()
    kept = moved_with(list(range(cells)), spare)
    check_order(kept, order)
    if any([cell not in order for cell in range(cells)]):
        return twice_all(cells, spare)
    for moment in range(len(order) + 1):
        words = stages_at(kept, single_ticks(order), moment)
        done = [cell for cell in range(cells) if words[cell] == DONE]
        fresh = [cell for cell in range(cells) if words[cell] == NOT_BEGUN]
        if min(len(done), len(fresh)) > words[cells:].count(AMID):
            return moved_with(exchanged(cells, done, fresh), spare)
    return None


def moved_with(sources, spare):
    """The Wish that each cell holds what its source holds, with so many spare cells."""
    return Wish(moved(tuple(sources)).rows, (), spare)


def twice_all(cells, spare):
    """The Wish that each cell holds twice as much: none keeps, so that each has to be written."""
    rows = []
    for cell in range(cells):
        rows.append(tuple([TWICE if place == cell else NOUGHT for place in range(cells)]))
    return Wish(tuple(rows), (), spare)


def exchanged(cells, done, fresh):
    """The list of the sources if as many done cells as can be exchange with such as are not begun.

    Then what the done ones hold stands twice: as many rows as are exchanged have got lost.
    """
    sources = list(range(cells))
    for one, other in zip(done, fresh):
        sources[one] = other
        sources[other] = one
    return sources
