"""Moments of ticks: what is begun and done then, what stands safe, and what has got lost.

A tick is a lot of cells that are written at once; an order is read as ticks of one cell each.
"""

from oncetwice.errors import NoOrder
from oncetwice.kinds import is_lot
from oncetwice.ranks import holds, span_of, widened
from oncetwice.sums import unit_row
from oncetwice.wishes import count_cells, is_cell, keeps, wished_cells

NOT_BEGUN = "not begun"
DONE = "done"
AMID = "amid"
MOST_TICKS = 60


def is_order(wish, thing):
    """Whether a thing is an order: a tuple of at most 60 cells."""
    if not isinstance(thing, tuple) or len(thing) > MOST_TICKS:
        return False
    return all([is_cell(wish, cell) for cell in thing])


def check_order(wish, order):
    """Raises NoOrder for what is no order of the wish."""
    if not is_order(wish, order):
        raise NoOrder()


def is_tick(wish, thing):
    """Whether a thing is a tick: a lot of cells, one at least."""
    return is_lot(thing, count_cells(wish)) and len(thing) > 0


def is_ticks(wish, thing):
    """Whether a thing is a timetable, good or not: a tuple of at most 60 ticks."""
    if not isinstance(thing, tuple) or len(thing) > MOST_TICKS:
        return False
    return all([is_tick(wish, tick) for tick in thing])


def single_ticks(order):
    """The tuple of the ticks of an order, of one cell each."""
    return tuple([(cell,) for cell in order])


def written_cells(ticks):
    """The list of the cells that are in these ticks, as often as they are."""
    return [cell for tick in ticks for cell in tick]


def stages_at(wish, ticks, moment):
    """The tuple of the words of all cells at a moment."""
    ahead = written_cells(ticks[:moment])
    behind = written_cells(ticks[moment:])
    wished = wished_cells(wish)
    words = []
    for cell in range(count_cells(wish)):
        if cell not in ahead:
            words.append(NOT_BEGUN)
        elif cell in wished and cell not in behind:
            words.append(DONE)
        else:
            words.append(AMID)
    return tuple(words)


def safe_span(wish, words):
    """The span of what stands safe at a moment at which the cells have these words."""
    rows = []
    for cell, row in enumerate(wish.rows):
        if words[cell] == NOT_BEGUN:
            rows.append(unit_row(cell, len(wish.rows)))
        elif words[cell] == DONE:
            rows.append(row)
    return span_of(rows)


def lack_of(wish, words):
    """The lack at a moment at which the cells have these words."""
    safe = safe_span(wish, words)
    needed = safe
    for cell in wished_cells(wish):
        needed = widened(needed, wish.rows[cell])
    return len(needed) - len(safe)


def lack_at(wish, ticks, moment):
    """The pair of the lack at a moment and of how many cells are amid then."""
    words = stages_at(wish, ticks, moment)
    return (lack_of(wish, words), words.count(AMID))


def lost_at(wish, ticks, moment):
    """The least lot of cells that is too much for a moment, None if there is none.

    It is enough to take each cell whose wish adds to the rank: of lots of one length that
    are free of one another no lesser one is left out so.
    """
    words = stages_at(wish, ticks, moment)
    span = safe_span(wish, words)
    lot = []
    for cell in wished_cells(wish):
        row = wish.rows[cell]
        if not holds(span, row):
            span = widened(span, row)
            lot.append(cell)
            if len(lot) > words.count(AMID):
                return tuple(lot)
    return None


def is_lost(wish, ticks, moment, lot):
    """Whether a lot of cells is too much for a moment, whether or not it is the least one."""
    if any([wish.rows[cell] is None for cell in lot]):
        return False
    words = stages_at(wish, ticks, moment)
    safe = safe_span(wish, words)
    span = safe
    for cell in lot:
        span = widened(span, wish.rows[cell])
    return len(lot) == words.count(AMID) + 1 and len(span) == len(safe) + len(lot)


def never_written(wish, ticks):
    """The list of the cells, ascending, that have a wish, do not keep and are not written."""
    written = written_cells(ticks)
    return [cell for cell in wished_cells(wish) if not keeps(wish, cell) and cell not in written]


def is_good(wish, ticks):
    """Whether ticks are good: whether there are multiples with which they make the wish."""
    if any([cell in wish.locked for cell in written_cells(ticks)]) or never_written(wish, ticks):
        return False
    return all([lost_at(wish, ticks, moment) is None for moment in range(len(ticks) + 1)])
