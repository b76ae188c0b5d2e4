"""Sums of multiples of numbers and of rows."""

from math import gcd, lcm

NOUGHT = (0, 1)
ONE = (1, 1)


def lowest(top, bottom):
    """The NUMBER that is top divided by bottom, which is not nought but may be below it."""
    shared = gcd(top, bottom)
    if bottom < 0:
        shared = -shared
    return (top // shared, bottom // shared)


def unit_row(at, many):
    """The row of so many numbers with ONE in this place."""
    return tuple([ONE if place == at else NOUGHT for place in range(many)])


def nought_row(many):
    """The row of so many times NOUGHT."""
    return tuple([NOUGHT for _ in range(many)])


def weighed(multiples, numbers):
    """The sum of these multiples of these numbers."""
    terms = []
    bottom = 1
    for (times, over), (high, low) in zip(multiples, numbers):
        if times != 0 and high != 0:
            terms.append((times * high, over * low))
            bottom = lcm(bottom, over * low)
    return lowest(sum([top * (bottom // under) for top, under in terms]), bottom)


def weighed_rows(multiples, rows):
    """The row that is the sum of these multiples of these rows, one at least."""
    return tuple([weighed(multiples, column) for column in zip(*rows)])
