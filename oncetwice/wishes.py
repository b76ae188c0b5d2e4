"""Wishes, and the programs that make them."""

from oncetwice.errors import BadWish, NoContents, NoProgram
from oncetwice.kinds import is_from_to, is_lot, is_row, is_tuple_of
from oncetwice.sums import nought_row, unit_row, weighed, weighed_rows

MOST_CELLS = 6
MOST_SPARE = 2
MOST_WRITINGS = 60


class Wish:
    """What each cell is to hold at the end, which cells are locked, and how many are spare."""

    def __init__(self, rows, locked, spare):
        check_rows(rows)
        if not is_lot(locked, len(rows)):
            raise BadWish(("locked",))
        if not is_from_to(spare, 0, MOST_SPARE):
            raise BadWish(("spare",))
        self.rows = rows
        self.locked = locked
        self.spare = spare

    def __eq__(self, other):
        return (isinstance(other, Wish) and self.rows == other.rows
                and self.locked == other.locked and self.spare == other.spare)


def check_rows(rows):
    """Raises BadWish for what is no tuple with, for each cell, a row of numbers or None."""
    if not isinstance(rows, tuple) or not 1 <= len(rows) <= MOST_CELLS:
        raise BadWish(("rows",))
    for cell, row in enumerate(rows):
        if row is not None and not is_row(row, len(rows)):
            raise BadWish(("row", cell))


def count_cells(wish):
    """How many cells there are, spare ones too."""
    return len(wish.rows) + wish.spare


def is_cell(wish, thing):
    """Whether a thing is a cell, spare ones too."""
    return is_from_to(thing, 0, count_cells(wish) - 1)


def keeps(wish, cell):
    """Whether the wish of this cell, which is no spare one, is to hold what it holds at first."""
    return wish.rows[cell] == unit_row(cell, len(wish.rows))


def wished_cells(wish):
    """The list of the cells that have a wish, ascending."""
    return [cell for cell, row in enumerate(wish.rows) if row is not None]


def is_writing(wish, thing):
    """Whether a thing is a writing."""
    return is_tuple_of(thing, 2) and is_cell(wish, thing[0]) and is_row(thing[1], count_cells(wish))


def is_program(wish, thing):
    """Whether a thing is a program: a tuple of at most 60 writings."""
    if not isinstance(thing, tuple) or len(thing) > MOST_WRITINGS:
        return False
    return all([is_writing(wish, writing) for writing in thing])


def ran(wish, program, contents):
    """What all cells hold behind the program, if they hold these contents at first."""
    if not is_program(wish, program):
        raise NoProgram()
    if not is_row(contents, count_cells(wish)):
        raise NoContents()
    held = list(contents)
    for cell, multiples in program:
        held[cell] = weighed(multiples, held)
    return tuple(held)


def standing(wish, program):
    """The row of what stands in each cell behind the program, by what all cells held at first."""
    if not is_program(wish, program):
        raise NoProgram()
    return stood(wish, single_writings(program))


def makes(wish, program):
    """Whether the program makes the wish."""
    if not is_program(wish, program):
        raise NoProgram()
    return is_fulfilled(wish, single_writings(program))


def single_writings(program):
    """The list of the ticks of a program, of one writing each."""
    return [(writing,) for writing in program]


def stood(wish, ticks):
    """As standing, behind ticks of writings, those of one tick being done at once."""
    many = count_cells(wish)
    held = [unit_row(cell, many) for cell in range(many)]
    for tick in ticks:
        ahead = list(held)
        for cell, multiples in tick:
            held[cell] = weighed_rows(multiples, ahead)
    return tuple(held)


def is_fulfilled(wish, ticks):
    """Whether ticks of writings write no locked cell, and behind them each wish is held."""
    if any([cell in wish.locked for tick in ticks for cell, _ in tick]):
        return False
    held = stood(wish, ticks)
    tail = nought_row(wish.spare)
    return all([held[cell] == wish.rows[cell] + tail for cell in wished_cells(wish)])
