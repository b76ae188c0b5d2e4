"""Codes: statements at once, tests, rounds and calls, how they run, and which cells are live."""

from oncetwice.coderows import SET, is_code_row, next_rows, read_cells, set_cells
from oncetwice.errors import BadCode, NoContents, NoNumber
from oncetwice.kinds import is_from_to, is_lot, is_row
from oncetwice.runs import is_count, run_whole
from oncetwice.sums import ONE

MOST_CODE_CELLS = 5
MOST_ROWS = 40


class Code:
    """Rows over some cells, the outs being those whose contents count at the end."""

    def __init__(self, cells, outs, rows):
        check_code(cells, outs, rows)
        self.cells = cells
        self.outs = outs
        self.rows = rows

    def __eq__(self, other):
        return (isinstance(other, Code) and self.cells == other.cells
                and self.outs == other.outs and self.rows == other.rows)


def check_code(cells, outs, rows):
    """Raises BadCode for what no code can be made of."""
    if not is_from_to(cells, 1, MOST_CODE_CELLS):
        raise BadCode(("cells",))
    if not is_lot(outs, cells):
        raise BadCode(("outs",))
    if not isinstance(rows, tuple) or len(rows) > MOST_ROWS:
        raise BadCode(("rows",))
    for number, row in enumerate(rows):
        if not is_code_row(row, cells, len(rows)):
            raise BadCode(("row", number))


def check_begins(code, begins):
    """Raises NoContents for what does not tell what the cells of a code hold."""
    if not is_row(begins, code.cells):
        raise NoContents()


def check_most(most):
    """Raises NoNumber for what is no number of rows to be done."""
    if not is_count(most):
        raise NoNumber()


def plain(code, begins, most):
    """The triple of what a run says, of the word for where it stands then, and of its outs."""
    check_begins(code, begins)
    check_most(most)
    ticks = [(row[1],) if row[0] == SET else () for row in code.rows]
    return run_whole(code, ticks, begins + (ONE,), most)


def live(code):
    """The tuple with, for each row and the END, the lot of the cells that are live ahead of it.

    Cells are added, from none on, as long as some are due: so there are no more of them than needed.
    """
    alive = [()] * len(code.rows) + [code.outs]
    grown = True
    while grown:
        grown = False
        for at in reversed(range(len(code.rows))):
            ahead = live_ahead(code, alive, at)
            if ahead != alive[at]:
                alive[at] = ahead
                grown = True
    return tuple(alive)


def live_ahead(code, alive, at):
    """The lot of the cells that are live ahead of a row, as far as is known of the rows behind it."""
    row = code.rows[at]
    found = read_cells(row)
    done = set_cells(row)
    for after in next_rows(code.rows, at):
        found.extend([cell for cell in alive[after] if cell not in done])
    return tuple([cell for cell in range(code.cells) if cell in found])
