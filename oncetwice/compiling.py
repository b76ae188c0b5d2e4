"""Compiling: single writings in the house that do what the set rows of a code tell at once."""

from oncetwice.coderows import SET
from oncetwice.codes import check_begins, check_most, live
from oncetwice.errors import NoCompiled, NoNumber, NoRow
from oncetwice.fewest import fewest, shortest
from oncetwice.kinds import is_from_to, is_tuple_of
from oncetwice.making import made
from oncetwice.runs import run_whole
from oncetwice.sums import NOUGHT, ONE, unit_row
from oncetwice.wishes import MOST_SPARE, Wish, is_program, makes, single_writings


def check_spare(spare):
    """Raises NoNumber for what is no number of spare cells."""
    if not is_from_to(spare, 0, MOST_SPARE):
        raise NoNumber()


def wish_at(code, row, spare):
    """The Wish of the house at a set row, with so many spare cells."""
    if not is_from_to(row, 0, len(code.rows) - 1) or code.rows[row][0] != SET:
        raise NoRow()
    check_spare(spare)
    return house_wish(code.cells, code.rows[row][1], live(code)[row + 1], spare)


def house_wish(cells, sets, needed, spare):
    """The Wish of a house of so many cells for these sets, behind which these cells are needed."""
    totals = {cell: total for cell, total in sets}
    rows = []
    for cell in range(cells):
        if cell not in needed:
            rows.append(None)
        elif cell in totals:
            rows.append(totals[cell])
        else:
            rows.append(unit_row(cell, cells + 1))
    rows.append(unit_row(cells, cells + 1))
    return Wish(tuple(rows), (cells,), spare)


def house_wishes(code, spare):
    """The list with, for each row, its Wish, None for rows that are no set rows."""
    alive = live(code)
    wishes = []
    for at, row in enumerate(code.rows):
        if row[0] == SET:
            wishes.append(house_wish(code.cells, row[1], alive[at + 1], spare))
        else:
            wishes.append(None)
    return wishes


def compiled(code, spare):
    """The tuple with, for each row, a shortest program that makes its wish, () where there is none."""
    check_spare(spare)
    return tuple([() if wish is None else made(wish, shortest(wish)) for wish in house_wishes(code, spare)])


def is_compiled(code, spare, thing):
    """Whether a thing is a tuple with, for each row, a program that makes its wish."""
    check_spare(spare)
    if not is_tuple_of(thing, len(code.rows)):
        return False
    return all([is_done_by(wish, program) for wish, program in zip(house_wishes(code, spare), thing)])


def is_done_by(wish, thing):
    """Whether a thing is a program that makes the wish, or () where there is none."""
    if wish is None:
        return is_tuple_of(thing, 0)
    return is_program(wish, thing) and makes(wish, thing)


def cost(code, spare):
    """How many writings a code has, if it is compiled."""
    check_spare(spare)
    return sum([fewest(wish) for wish in house_wishes(code, spare) if wish is not None])


def check_compiled(code, spare, programs):
    """Raises NoNumber for what is no number of spare cells, NoCompiled for what the code can't be led by."""
    if not is_compiled(code, spare, programs):
        raise NoCompiled()


def first_contents(begins, spare):
    """The tuple of what house and spare cells hold at first."""
    return begins + (ONE,) + (NOUGHT,) * spare


def ran_compiled(code, spare, programs, begins, most):
    """As plain, but each set row is done by the writings of its program, one by one."""
    check_compiled(code, spare, programs)
    check_begins(code, begins)
    check_most(most)
    ticks = [single_writings(program) for program in programs]
    return run_whole(code, ticks, first_contents(begins, spare), most)
