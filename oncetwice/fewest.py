"""The fewest writings, the cheapest ones, and the fewest ticks in which a wish can be made."""

from oncetwice.errors import NoNumber, NoPrices
from oncetwice.kinds import is_from_to, is_tuple_of
from oncetwice.moments import is_good, is_ticks
from oncetwice.ways import Ways, cheapest_way, count_ways, fewest_ticks, shortest_way
from oncetwice.wishes import count_cells

MOST_PRICE = 1000
MOST_LADDER = 3
MOST_PORTS = 8


def fewest(wish):
    """The least number of writings of a program that makes the wish, None if there is none."""
    return fewest_with(wish, wish.spare)


def fewest_with(wish, spare):
    """As fewest, with so many spare cells in the place of those of the wish."""
    order = shortest_way(Ways(wish, spare))
    if order is None:
        return None
    return len(order)


def shortest(wish):
    """The least good order of the fewest writings, None if there is none."""
    return shortest_way(Ways(wish, wish.spare))


def count_shortest(wish):
    """How many good orders of the fewest writings there are."""
    return count_ways(Ways(wish, wish.spare))


def is_prices(wish, thing):
    """Whether a thing is a tuple with a price for each cell, spare ones too."""
    if not is_tuple_of(thing, count_cells(wish)):
        return False
    return all([is_from_to(price, 1, MOST_PRICE) for price in thing])


def cheapest(wish, prices):
    """The pair of the least price of a good order and of the least such order, None if there is none."""
    if not is_prices(wish, prices):
        raise NoPrices()
    return cheapest_way(Ways(wish, wish.spare), prices)


def ladder(wish, most):
    """The tuple of the fewest writings with 0, 1, .., most spare cells, None where there are none."""
    if not is_from_to(most, 0, MOST_LADDER):
        raise NoNumber()
    return tuple([fewest_with(wish, spare) for spare in range(most + 1)])


def check_ports(ports):
    """Raises NoNumber for what is no number of ports."""
    if not is_from_to(ports, 1, MOST_PORTS):
        raise NoNumber()


def ticks(wish, ports):
    """The fewest ticks of at most so many cells that make the wish, None if there are none."""
    found = timetable(wish, ports)
    if found is None:
        return None
    return len(found)


def timetable(wish, ports):
    """A good timetable of the fewest ticks of at most so many cells, None if there is none."""
    check_ports(ports)
    return fewest_ticks(Ways(wish, wish.spare), ports)


def is_timetable(wish, ports, thing):
    """Whether a thing is a good timetable of ticks of at most so many cells."""
    check_ports(ports)
    if not is_ticks(wish, thing) or any([len(tick) > ports for tick in thing]):
        return False
    return is_good(wish, thing)
