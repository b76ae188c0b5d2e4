"""Moving: wishes by which each cell is to hold what a single cell, its source, holds."""

from oncetwice.errors import NoNumber, NoSources
from oncetwice.kinds import is_from_to
from oncetwice.sums import unit_row
from oncetwice.wishes import MOST_CELLS, MOST_SPARE, Wish


def is_sources(thing):
    """Whether a thing is a tuple with a source for each of 1 to 6 cells."""
    if not isinstance(thing, tuple) or not 1 <= len(thing) <= MOST_CELLS:
        return False
    return all([is_from_to(source, 0, len(thing) - 1) for source in thing])


def check_sources(sources):
    """Raises NoSources for what does not tell a source for each cell."""
    if not is_sources(sources):
        raise NoSources()


def moved(sources):
    """The Wish, without locked and spare cells, that each cell holds what its source holds."""
    check_sources(sources)
    return Wish(tuple([unit_row(source, len(sources)) for source in sources]), (), 0)


def rings(sources):
    """The ascending list of the rings, each with its least cell first."""
    check_sources(sources)
    found = []
    for cell in range(len(sources)):
        path = path_from(sources, cell)
        if len(path) > 1 and sources[path[-1]] == cell and min(path) == cell:
            found.append(path)
    return found


def path_from(sources, first):
    """The tuple of this cell, its source, the source of that, and so on, as long as no cell comes twice."""
    path = []
    cell = first
    while cell not in path:
        path.append(cell)
        cell = sources[cell]
    return tuple(path)


def is_closed(sources, ring):
    """Whether no cell of a ring is the source of a cell that is not of it."""
    return not any([source in ring and cell not in ring for cell, source in enumerate(sources)])


def moves(sources, spare):
    """The fewest writings by which each cell holds what its source holds, with so many spare cells."""
    check_sources(sources)
    if not is_from_to(spare, 0, MOST_SPARE):
        raise NoNumber()
    others = len([cell for cell, source in enumerate(sources) if source != cell])
    if spare == 0 and all([cell in sources for cell in range(len(sources))]):
        return others + len(rings(sources))
    if any([is_closed(sources, ring) for ring in rings(sources)]):
        return others + 1
    return others
