"""Rows of a code: their sorts, the cells that they read and set, and the rows to which they lead."""

from oncetwice.kinds import is_from_to, is_lot, is_row, is_tuple_of
from oncetwice.sums import NOUGHT

SET = "set"
SAY = "say"
LESS = "less"
SAME = "same"
GO = "go"
CALL = "call"
BACK = "back"

# What stands behind the word of each sort.
PARTS = {
    "set": ("sets",),
    "say": ("total",),
    "less": ("total", "total", "goal"),
    "same": ("total", "total", "goal"),
    "go": ("goal",),
    "call": ("goal",),
    "back": (),
}


def is_code_row(thing, cells, many):
    """Whether a thing is a row of a code of so many cells that has so many rows."""
    if not isinstance(thing, tuple) or not thing or not isinstance(thing[0], str) or thing[0] not in PARTS:
        return False
    parts = PARTS[thing[0]]
    if len(thing) != len(parts) + 1:
        return False
    return all([is_part(part, item, cells, many) for part, item in zip(parts, thing[1:])])


def is_part(part, thing, cells, many):
    """Whether a thing is such a part of a row."""
    if part == "sets":
        return is_sets(thing, cells)
    if part == "total":
        return is_total(thing, cells)
    return is_from_to(thing, 0, many)


def is_total(thing, cells):
    """Whether a thing is a SUM of so many cells: their multiples, and the number added."""
    return is_row(thing, cells + 1)


def is_sets(thing, cells):
    """Whether a thing is a tuple of at least one pair of a cell and a SUM, ascending by cells."""
    if not isinstance(thing, tuple) or not thing:
        return False
    if not all([is_tuple_of(item, 2) and is_total(item[1], cells) for item in thing]):
        return False
    return is_lot(tuple([item[0] for item in thing]), cells)


def totals_of(row):
    """The list of the SUMs of a row."""
    if row[0] == SET:
        return [total for _, total in row[1]]
    if row[0] == SAY:
        return [row[1]]
    if row[0] in (LESS, SAME):
        return [row[1], row[2]]
    return []


def read_cells(row):
    """The list of the cells that a row reads, each as often as it does."""
    found = []
    for total in totals_of(row):
        found.extend([cell for cell, times in enumerate(total[:-1]) if times != NOUGHT])
    return found


def set_cells(row):
    """The list of the cells that a row sets."""
    if row[0] == SET:
        return [cell for cell, _ in row[1]]
    return []


def goal_of(row):
    """The number of the row to which a row tells to go, None if it tells none."""
    if row[0] in (LESS, SAME, GO, CALL):
        return row[-1]
    return None


def next_rows(rows, at):
    """The list of the numbers of the next rows of a row."""
    row = rows[at]
    if row[0] == BACK:
        return [number + 1 for number, other in enumerate(rows) if other[0] == CALL]
    if row[0] in (GO, CALL):
        return [goal_of(row)]
    if row[0] in (LESS, SAME):
        return [at + 1, goal_of(row)]
    return [at + 1]
