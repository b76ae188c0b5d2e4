"""Runs of a code: at which row they stand, what a row does, and whole runs."""

from oncetwice.coderows import BACK, CALL, GO, LESS, SAME, SAY, goal_of
from oncetwice.kinds import is_from_to
from oncetwice.sums import weighed

END = "end"
FAULT = "fault"
RUNS = "runs"
ON = "on"
MOST_CALLS = 20
MOST_DONE = 10000


def is_count(thing):
    """Whether a thing is a number of rows or writings that may be done at once."""
    return is_from_to(thing, 0, MOST_DONE)


def word_at(code, at, remembered):
    """The word for a run that stands at this row: "end", "fault" or "runs"."""
    if at == len(code.rows):
        return END
    sort = code.rows[at][0]
    if (sort == CALL and len(remembered) == MOST_CALLS) or (sort == BACK and not remembered):
        return FAULT
    return RUNS


def written(tick, held):
    """The tuple of what the cells hold behind writings that are done at once.

    A row of a writing may be shorter than what is held: it takes nothing of the cells beyond it.
    """
    after = list(held)
    for cell, multiples in tick:
        after[cell] = weighed(multiples, held)
    return tuple(after)


def said_by(row, held):
    """The list of the numbers that a row says."""
    if row[0] == SAY:
        return [weighed(row[1], held)]
    return []


def is_less(one, other):
    """Whether one number is less than the other one."""
    return one[0] * other[1] < other[0] * one[1]


def behind_row(row, at, held, remembered):
    """The pair of the row at which a run stands behind this one, and of the rows remembered then."""
    if row[0] == GO or (row[0] in (LESS, SAME) and is_told_to_go(row, held)):
        return (goal_of(row), remembered)
    if row[0] == CALL:
        return (goal_of(row), remembered + (at + 1,))
    if row[0] == BACK:
        return (remembered[-1], remembered[:-1])
    return (at + 1, remembered)


def is_told_to_go(row, held):
    """Whether a less or same row goes elsewhere than on."""
    one, other = weighed(row[1], held), weighed(row[2], held)
    if row[0] == LESS:
        return is_less(one, other)
    return one == other


def run_whole(code, ticks, first, most):
    """The triple that plain tells of a run in the house.

    ticks has for each row the writings by which it is set, a tuple for those at once; first is what
    house and spare cells hold at first.
    """
    at, held, remembered, said = 0, first, (), []
    done = 0
    while done < most and word_at(code, at, remembered) == RUNS:
        row = code.rows[at]
        said.extend(said_by(row, held))
        for tick in ticks[at]:
            held = written(tick, held)
        at, remembered = behind_row(row, at, held, remembered)
        done += 1
    word = word_at(code, at, remembered)
    if word == END:
        return (tuple(said), word, tuple([held[cell] for cell in code.outs]))
    return (tuple(said), ON if word == RUNS else word, None)
