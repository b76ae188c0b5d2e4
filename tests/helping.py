"""What several tests need: short ways to write numbers, odd things, and a second, plain reckoning."""

from fractions import Fraction
from itertools import combinations, product

from oncetwice.benches import Bench
from oncetwice.codes import Code
from oncetwice.desks import Desk
from oncetwice.errors import BadWish, NoProgram
from oncetwice.runners import Runner
from oncetwice.tables import Table
from oncetwice.wishes import Wish


def number(value):
    """The NUMBER of 2, "1/2" or a Fraction."""
    value = Fraction(value)
    return (value.numerator, value.denominator)


def row(*values):
    return tuple(number(value) for value in values)


def wish(rows, locked=(), spare=0):
    """The Wish of rows written shortly: row 0 1, or None."""
    return Wish(tuple(None if values is None else row(*values) for values in rows), locked, spare)


def writing(cell, *values):
    return (cell, row(*values))


def deep(thing, depth):
    """The thing within so many tuples."""
    for _ in range(depth):
        thing = (thing,)
    return thing


def deep_list(thing, depth):
    for _ in range(depth):
        thing = [thing]
    return thing


SWAP = wish([(0, 1), (1, 0)])
FAR = wish([(0, 1), (1, 1)])
TURN = wish([(0, 1, 0), (0, 0, 1), (1, 0, 0)])


def odd_things():
    """Things that are never a part of anything that is described, nor the whole of it."""
    return [
        None, True, False, "", "0", "momen", b"", b"01", [], [0], [0, 1], [[0, [1, 2]]], {}, {0: 1},
        {"rows": ()}, range(2), slice(1), Ellipsis, NotImplemented, len, int, object(), iter([0]),
        bytearray(b"a"), memoryview(b"a"), ValueError("a"), odd_things, NoProgram(),
        BadWish(("rows",)), SWAP, wish([None]), Table(2, 1, ((1,), (0,))), Code(1, (0,), (("go", 1),)),
        Runner(Code(1, (), ()), 0, (), ((0, 1),)), Bench(SWAP), Desk(),
        deep((), 36), deep(None, 36), deep_list(0, 36), deep({0: deep_list(True, 10)}, 20), ((None,),) * 9,
    ]


def odd_numbers():
    """Things that are no NUMBER, though some are near it."""
    return odd_things() + [
        0, 1, -1, (), (1,), (1, 1, 1), [0, 1], [1, 1], (0, 2), (0, -1), (1, 0), (0, 0), (2, 2), (4, 6),
        (-4, 6), (1, -2), (-1, -2), (True, 1), (1, True), (False, 1), (None, 1), (1, None), ("1", 1),
        ((1, 1), 1), (1, (1, 1)), (10 ** 29, 10 ** 28), (6, -4),
    ]


def places(value):
    """The paths to all parts of tuples in tuples, the whole one first."""
    paths = [()]
    if isinstance(value, tuple):
        for at, item in enumerate(value):
            paths.extend((at,) + path for path in places(item))
    return paths


def part(value, path):
    for at in path:
        value = value[at]
    return value


def replaced(value, path, thing):
    """The same tuples with another thing at a path."""
    if not path:
        return thing
    at = path[0]
    return value[:at] + (replaced(value[at], path[1:], thing),) + value[at + 1:]


def spoiled(value):
    """The value with one part replaced by what can't stand there: lists for tuples, odd things."""
    for path in places(value):
        here = part(value, path)
        if isinstance(here, tuple):
            yield replaced(value, path, list(here))
        else:
            yield replaced(value, path, here == 1)
            yield replaced(value, path, str(here).encode())
            yield replaced(value, path, [here])
        for thing in odd_things():
            yield replaced(value, path, thing)


def fractions(numbers):
    return [Fraction(*pair) for pair in numbers]


def rank(rows):
    """The rank of rows of Fractions."""
    rows = [list(values) for values in rows]
    found = 0
    width = len(rows[0]) if rows else 0
    for column in range(width):
        at = next((k for k in range(found, len(rows)) if rows[k][column]), None)
        if at is None:
            continue
        rows[found], rows[at] = rows[at], rows[found]
        for k in range(found + 1, len(rows)):
            times = rows[k][column] / rows[found][column]
            rows[k] = [one - times * other for one, other in zip(rows[k], rows[found])]
        found += 1
    return found


def unit(cell, many):
    return [Fraction(int(place == cell)) for place in range(many)]


def words_at(a_wish, ticks, moment):
    """What stages is to tell, from point 2.1, of ticks."""
    words = []
    for cell in range(len(a_wish.rows) + a_wish.spare):
        ahead = any(cell in tick for tick in ticks[:moment])
        behind = any(cell in tick for tick in ticks[moment:])
        has_wish = cell < len(a_wish.rows) and a_wish.rows[cell] is not None
        if not ahead:
            words.append("not begun")
        elif has_wish and not behind:
            words.append("done")
        else:
            words.append("amid")
    return tuple(words)


def safe_at(a_wish, ticks, moment):
    """The rows of what stands safe, from point 2.2."""
    words = words_at(a_wish, ticks, moment)
    rows = []
    for cell, values in enumerate(a_wish.rows):
        if words[cell] == "not begun":
            rows.append(unit(cell, len(a_wish.rows)))
        elif words[cell] == "done":
            rows.append(fractions(values))
    return rows


def wishes_of(a_wish):
    return [fractions(values) for values in a_wish.rows if values is not None]


def lack_of(a_wish, ticks, moment):
    """What lack is to tell, from point 2.2, of ticks."""
    safe = safe_at(a_wish, ticks, moment)
    amid = words_at(a_wish, ticks, moment).count("amid")
    return (rank(wishes_of(a_wish) + safe) - rank(safe), amid)


def keeps(a_wish, cell):
    return fractions(a_wish.rows[cell]) == unit(cell, len(a_wish.rows))


def faults_of(a_wish, ticks):
    """All faults of ticks, from point 2.3, the first one first."""
    written = [cell for tick in ticks for cell in tick]
    found = [("locked", place) for place, cell in enumerate(written) if cell in a_wish.locked]
    for cell, values in enumerate(a_wish.rows):
        if values is not None and not keeps(a_wish, cell) and cell not in written:
            found.append(("never", cell))
    wished = [cell for cell, values in enumerate(a_wish.rows) if values is not None]
    for moment in range(len(ticks) + 1):
        safe = safe_at(a_wish, ticks, moment)
        size = words_at(a_wish, ticks, moment).count("amid") + 1
        for lot in combinations(wished, size):
            wishes = [fractions(a_wish.rows[cell]) for cell in lot]
            if rank(safe + wishes) == rank(safe) + size:
                found.append(("moment", moment, lot))
    return found


def is_good(a_wish, ticks):
    """Whether ticks are good, from point 2.2, by the lack at each moment."""
    if any(fault[0] != "moment" for fault in faults_of(a_wish, ticks)):
        return False
    lacks = [lack_of(a_wish, ticks, moment) for moment in range(len(ticks) + 1)]
    return all(lacking <= amid for lacking, amid in lacks)


def judge(a_wish):
    """is_good for this wish alone; the lack is reckoned once for the same words of all cells."""
    lacks = {}
    needed = [cell for cell, values in enumerate(a_wish.rows) if values is not None and not keeps(a_wish, cell)]

    def good(ticks):
        written = {cell for tick in ticks for cell in tick}
        if any(cell in written for cell in a_wish.locked) or any(cell not in written for cell in needed):
            return False
        for moment in range(len(ticks) + 1):
            words = words_at(a_wish, ticks, moment)
            if words not in lacks:
                lacking, amid = lack_of(a_wish, ticks, moment)
                lacks[words] = lacking <= amid
            if not lacks[words]:
                return False
        return True

    return good


def done_ticks(a_wish, ticks, contents):
    """What all cells hold, as Fractions or lists of them, behind ticks of writings done at once."""
    held = [list(values) for values in contents]
    for tick in ticks:
        ahead = [list(values) for values in held]
        for cell, multiples in tick:
            columns = zip(*ahead)
            times = fractions(multiples)
            held[cell] = [sum(k * value for k, value in zip(times, column)) for column in columns]
    return held


def fulfils(a_wish, ticks):
    """Whether ticks of writings make the wish, from point 1.2."""
    many = len(a_wish.rows) + a_wish.spare
    if any(cell in a_wish.locked for tick in ticks for cell, _ in tick):
        return False
    held = done_ticks(a_wish, ticks, [unit(cell, many) for cell in range(many)])
    tail = [Fraction(0)] * a_wish.spare
    return all(
        values is None or held[cell] == fractions(values) + tail for cell, values in enumerate(a_wish.rows))


def singly(things):
    return tuple((thing,) for thing in things)


def orders_of(cells, longest):
    """All orders of these cells, the short ones first."""
    for length in range(longest + 1):
        yield from product(range(cells), repeat=length)


def ticks_of(cells, longest):
    """All timetables of these cells, the short ones first."""
    lots = [lot for size in range(1, cells + 1) for lot in combinations(range(cells), size)]
    for length in range(longest + 1):
        yield from product(lots, repeat=length)


def small_wishes():
    """All wishes of two cells with multiples nought and one, locked and free ones, and a spare one."""
    choices = [None, (0, 0), (0, 1), (1, 0), (1, 1)]
    for rows in product(choices, repeat=2):
        for locked in [(), (0,), (1,), (0, 1)]:
            for spare in (0, 1):
                yield wish(rows, locked, spare)


def threes():
    """Some wishes of three cells: rings, sums, broken numbers, free, locked and spare cells."""
    return [
        TURN,
        wish([(0, 1, 0), (0, 0, 1), (1, 0, 0)], (), 1),
        wish([(0, 1, 0), (1, 0, 0), (0, 0, 1)], (2,), 0),
        wish([(0, 1, 0), (1, 0, 0), None]),
        wish([(0, 1, 0), (1, 1, 0), (1, 0, 0)]),
        wish([("1/2", "-1/3", 0), (3, -2, 0), (0, 0, "5/7")]),
        wish([(1, 1, 1), (1, 1, 1), (1, 1, 1)]),
        wish([(1, 2, 3), (4, 5, 6), (7, 8, 9)]),
        wish([(0, 0, 0), (0, 0, 0), (1, 0, 0)]),
        wish([None, (1, 0, 1), (0, "2/3", 0)], (0,), 0),
        wish([None, (1, 0, 0), (0, 1, 0)]),
        wish([None, None, None]),
    ]


def more_threes():
    """More wishes of three cells: such as keep, locked and free ones, and up to two spare cells."""
    return [
        wish([(0, 1, 0), (1, 0, 0), (0, 0, 1)]),
        wish([(0, 1, 0), (1, 0, 0), (0, 0, 1)], (), 1),
        wish([(0, 1, 0), (1, 0, 0), (0, 0, 1)], (2,), 2),
        wish([(1, 0, 0), (0, 1, 0), (0, 0, 1)], (0, 1, 2), 1),
        wish([(1, 0, 0), (0, 0, 1), (0, 1, 0)], (0,), 1),
        wish([(0, 1, 0), (0, 0, 1), None], (2,), 1),
        wish([None, (1, 0, "2/3"), ("1/2", "1/3", 0)], (0,)),
        wish([None, (1, 1, 0), None], (0, 2), 1),
        wish([(0, 1, 1), (1, 0, 1), (1, 1, 0)]),
        wish([(0, 1, 0), (0, 0, 1), (1, 0, 0)], (), 2),
        wish([(0, 0, 1), None, (1, 0, 0)], (1,)),
        wish([(0, 0, 1), (0, 1, 0), (1, 0, 0)], (2,)),
        wish([("1/2", 0, 1), (1, 0, "1/2"), (0, "7/3", 0)]),
        wish([("1/2", 0, 1), (1, 0, 2), (0, 1, 0)], (2,)),
    ]


def some_wishes():
    return [*small_wishes(), *threes(), *more_threes()]


def has_way(a_wish):
    """Whether each locked cell is free or keeps, from the second fact."""
    return all(a_wish.rows[cell] is None or keeps(a_wish, cell) for cell in a_wish.locked)


def with_spare(a_wish, spare):
    return Wish(a_wish.rows, a_wish.locked, spare)


def onto_wishes(cells, spare):
    """All onto wishes of so many cells with multiples nought and one, none locked."""
    for rows in product(product((0, 1), repeat=cells), repeat=cells):
        if rank([[Fraction(value) for value in values] for values in rows]) == cells:
            yield wish(rows, (), spare)


def applied(a_wish, contents):
    """What the cells are to hold, as Fractions, if they hold these numbers at first."""
    return [sum(k * value for k, value in zip(fractions(values), contents)) for values in a_wish.rows]
