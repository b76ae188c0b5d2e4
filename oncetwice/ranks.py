"""Spans: all that sums of multiples of some rows can be.

A span is a list of pairs (pivot, row): the row has integers in the place of numbers, not nought at
its pivot, and nought at the pivots of the pairs ahead of it. There are as many pairs as the rank.
"""

from math import gcd, lcm

from oncetwice.sums import lowest, unit_row


def whole_row(row):
    """The list of integers that is a multiple, not by nought, of this row of numbers."""
    many = 1
    for _, bottom in row:
        many = lcm(many, bottom)
    return [top * (many // bottom) for top, bottom in row]


def shortened(row):
    """This list of integers without their common divisor, for integers grow with each step."""
    shared = 0
    for item in row:
        shared = gcd(shared, item)
    if shared > 1:
        return [item // shared for item in row]
    return row


def cleared(span, row):
    """What is left of a multiple of this list of integers, nought at each pivot of the span."""
    left = row
    for pivot, base in span:
        by, times = base[pivot], left[pivot]
        if times != 0:
            left = shortened([by * item - times * other for item, other in zip(left, base)])
    return left


def first_not_nought(row):
    """The first place of this list of integers that is not nought, None if there is none."""
    for place, item in enumerate(row):
        if item != 0:
            return place
    return None


def holds(span, row):
    """Whether this row of numbers is a sum of multiples of the rows of the span."""
    return first_not_nought(cleared(span, whole_row(row))) is None


def widened(span, row):
    """The span of this span and a row of numbers; as long as it was if it held the row."""
    left = cleared(span, whole_row(row))
    pivot = first_not_nought(left)
    if pivot is None:
        return span
    return [*span, (pivot, left)]


def span_of(rows):
    """The span of these rows of numbers."""
    span = []
    for row in rows:
        span = widened(span, row)
    return span


def holds_all(span, rows):
    """Whether each of these rows of numbers is held by the span."""
    return all([holds(span, row) for row in rows])


def multiples_for(row, rows):
    """The multiples of these rows whose sum is this row, which their span holds.

    Behind the numbers of each row stand multiples that tell of which rows it was summed up, and
    behind the row that is looked for, cleared by the others, how often it was taken itself.
    """
    width, many = len(row), len(rows)
    span = []
    for at, other in enumerate(rows):
        left = cleared(span, whole_row(other + unit_row(at, many + 1)))
        pivot = first_not_nought(left[:width])
        if pivot is not None:
            span = [*span, (pivot, left)]
    left = cleared(span, whole_row(row + unit_row(many, many + 1)))
    return tuple([lowest(-times, left[-1]) for times in left[width:-1]])
