"""Making: the multiples with which just these writings make a wish."""

from oncetwice.errors import NoTimetable
from oncetwice.kinds import is_tuple_of
from oncetwice.moments import DONE, check_order, single_ticks, stages_at
from oncetwice.moments import is_good, is_ticks, safe_span
from oncetwice.ranks import holds, holds_all, multiples_for, widened
from oncetwice.sums import nought_row, unit_row, weighed_rows
from oncetwice.wishes import is_fulfilled, is_program, is_writing, makes, wished_cells


def made(wish, order):
    """A program of this order that makes the wish, None if there is none."""
    check_order(wish, order)
    ticks = single_ticks(order)
    if not is_good(wish, ticks):
        return None
    return tuple([writing for tick in writings_of(wish, ticks) for writing in tick])


def is_made(wish, order, thing):
    """Whether a thing is a program of this order that makes the wish."""
    check_order(wish, order)
    if not is_program(wish, thing):
        return False
    return cells_of(thing) == order and makes(wish, thing)


def check_timetable(wish, timetable):
    """Raises NoTimetable for what is no timetable of the wish."""
    if not is_ticks(wish, timetable):
        raise NoTimetable()


def made_ticks(wish, timetable):
    """The writings of each tick with which the timetable makes the wish, None if there are none."""
    check_timetable(wish, timetable)
    if not is_good(wish, timetable):
        return None
    return writings_of(wish, timetable)


def is_made_ticks(wish, timetable, thing):
    """Whether a thing is the writings of each tick, with which the timetable makes the wish."""
    check_timetable(wish, timetable)
    if not is_tuple_of(thing, len(timetable)):
        return False
    if not all([is_tick_done(wish, tick, writings) for tick, writings in zip(timetable, thing)]):
        return False
    return is_fulfilled(wish, thing)


def is_tick_done(wish, tick, thing):
    """Whether a thing is a tuple of writings of the cells of a tick, in their order."""
    if not is_tuple_of(thing, len(tick)) or not all([is_writing(wish, writing) for writing in thing]):
        return False
    return cells_of(thing) == tick


def cells_of(writings):
    """The tuple of the cells of writings."""
    return tuple([writing[0] for writing in writings])


def writings_of(wish, ticks):
    """The tuple of the writings of each tick, by which good ticks make the wish."""
    held = first_held(wish)
    done = []
    for tick, rows in zip(ticks, planned(wish, ticks)):
        done.append(tuple([(cell, multiples_for(row, held)) for cell, row in zip(tick, rows)]))
        for cell, row in zip(tick, rows):
            held[cell] = row
    return tuple(done)


def first_held(wish):
    """The list of the rows that all cells hold at first.

    Nobody knows what a spare cell holds, so nothing may be made of it: it counts as nought.
    """
    many = len(wish.rows)
    return [unit_row(cell, many) for cell in range(many)] + [nought_row(many) for _ in range(wish.spare)]


def planned(wish, ticks):
    """For each tick the list of the rows that its cells shall hold behind it.

    spans has for each moment all that can be made of what stands safe then and of the rows that
    are planned so far for cells that are amid then. Good ticks have so many cells amid at each
    moment that in the end each of the spans holds all wishes: so from each moment on they can
    be made, and so can all rows that are planned, which are sums of wishes.
    """
    base = free_wishes(wish)
    words = [stages_at(wish, ticks, moment) for moment in range(len(ticks) + 1)]
    spans = [safe_span(wish, stages) for stages in words]
    plan = []
    for at, tick in enumerate(ticks):
        rows = []
        for cell in tick:
            if words[at + 1][cell] == DONE:
                rows.append(wish.rows[cell])
            else:
                until = next_place(ticks, cell, at + 1)
                rows.append(helping_row(wish, base, spans, at + 1, until))
        plan.append(rows)
    return plan


def free_wishes(wish):
    """The list of the first wishes that are free of one another, as many as their rank."""
    base, span = [], []
    for cell in wished_cells(wish):
        if not holds(span, wish.rows[cell]):
            span = widened(span, wish.rows[cell])
            base.append(wish.rows[cell])
    return base


def next_place(ticks, cell, start):
    """The place of the first tick from start on that has this cell, else how many ticks there are."""
    for place in range(start, len(ticks)):
        if cell in ticks[place]:
            return place
    return len(ticks)


def helping_row(wish, base, spans, first, last):
    """A sum of wishes that widens each of the spans from first to last that lacks a wish.

    The spans are widened by it. A span that lacks a wish holds less rows of the curve than the
    base has, so that one of the next rows serves for all of them.
    """
    lacking = [span for span in spans[first:last + 1] if not holds_all(span, base)]
    at = 0
    row = curve_row(wish, base, at)
    while any([holds(span, row) for span in lacking]):
        at += 1
        row = curve_row(wish, base, at)
    for moment in range(first, last + 1):
        spans[moment] = widened(spans[moment], row)
    return row


def curve_row(wish, base, at):
    """The first row of the base, at times the next one, at times at the one behind it, and so on."""
    if not base:
        return nought_row(len(wish.rows))
    multiples = []
    times = 1
    for _ in base:
        multiples.append((times, 1))
        times = times * at
    return weighed_rows(multiples, base)
