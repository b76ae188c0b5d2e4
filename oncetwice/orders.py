"""Orders: what has become of each cell at each moment, and what is wrong with an order."""

from oncetwice.errors import NoMoment
from oncetwice.kinds import is_from_to, is_lot, is_tuple_of
from oncetwice.moments import check_order, single_ticks, stages_at
from oncetwice.moments import is_lost, lack_at, lost_at, never_written


def check_moment(order, moment):
    """Raises NoMoment for what is no moment of the order."""
    if not is_from_to(moment, 0, len(order)):
        raise NoMoment()


def stages(wish, order, moment):
    """The tuple of the words of all cells at a moment: "not begun", "done" or "amid"."""
    check_order(wish, order)
    check_moment(order, moment)
    return stages_at(wish, single_ticks(order), moment)


def lack(wish, order, moment):
    """The pair of the lack at a moment and of how many cells are amid then."""
    check_order(wish, order)
    check_moment(order, moment)
    return lack_at(wish, single_ticks(order), moment)


def fault(wish, order):
    """The first fault of an order, None for a good one."""
    check_order(wish, order)
    for place, cell in enumerate(order):
        if cell in wish.locked:
            return ("locked", place)
    ticks = single_ticks(order)
    for cell in never_written(wish, ticks):
        return ("never", cell)
    for moment in range(len(order) + 1):
        lot = lost_at(wish, ticks, moment)
        if lot is not None:
            return ("moment", moment, lot)
    return None


def is_fault(wish, order, thing):
    """Whether a thing is a fault of an order, whether or not it is the first one."""
    check_order(wish, order)
    if is_tuple_of(thing, 2):
        return is_short_fault(wish, order, thing[0], thing[1])
    if is_tuple_of(thing, 3):
        return is_word(thing[0], "moment") and is_moment_fault(wish, order, thing[1], thing[2])
    return False


def is_word(thing, word):
    """Whether a thing is this word; nothing but a string is compared with it."""
    return isinstance(thing, str) and thing == word


def is_short_fault(wish, order, word, at):
    """Whether a word and what stands behind it are a fault of a cell."""
    if is_word(word, "locked"):
        return is_from_to(at, 0, len(order) - 1) and order[at] in wish.locked
    if is_word(word, "never"):
        return is_from_to(at, 0, len(wish.rows) - 1) and at in never_written(wish, single_ticks(order))
    return False


def is_moment_fault(wish, order, moment, lot):
    """Whether a moment and a lot are a fault."""
    if not is_from_to(moment, 0, len(order)) or not is_lot(lot, len(wish.rows)):
        return False
    return is_lost(wish, single_ticks(order), moment, lot)
