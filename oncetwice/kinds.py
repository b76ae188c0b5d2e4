"""What a thing of any kind is: an integer, a NUMBER, a row, a lot."""

from math import gcd


def is_whole(thing):
    """Whether a thing is an integer; True and False are none."""
    return isinstance(thing, int) and not isinstance(thing, bool)


def is_from_to(thing, low, high):
    """Whether a thing is an integer from low to high."""
    return is_whole(thing) and low <= thing <= high


def is_tuple_of(thing, many):
    """Whether a thing is a tuple of so many items."""
    return isinstance(thing, tuple) and len(thing) == many


def is_number(thing):
    """Whether a thing is a NUMBER: a pair in lowest terms, its bottom from 1 on."""
    if not is_tuple_of(thing, 2):
        return False
    top, bottom = thing
    return is_whole(top) and is_whole(bottom) and bottom >= 1 and gcd(top, bottom) == 1


def is_row(thing, many):
    """Whether a thing is a row of so many numbers."""
    return is_tuple_of(thing, many) and all([is_number(item) for item in thing])


def is_lot(thing, many):
    """Whether a thing is a lot of cells, of which there are so many."""
    if not isinstance(thing, tuple) or not all([is_from_to(cell, 0, many - 1) for cell in thing]):
        return False
    return all([cell < after for cell, after in zip(thing, thing[1:])])
