"""What the tests of codes need: short ways to write rows, and a second, plain reckoning of runs."""

from fractions import Fraction

from oncetwice.codes import Code
from tests.helping import fractions, fulfils, number, rank, row, singly, unit

MOST_CALLS = 20


def at_once(sets):
    """The set row of a dict of the sums, written shortly, by the cells."""
    return ("set", tuple((cell, row(*values)) for cell, values in sorted(sets.items())))


def say(*values):
    return ("say", row(*values))


def less(one, other, to):
    return ("less", row(*one), row(*other), to)


def same(one, other, to):
    return ("same", row(*one), row(*other), to)


# a b = b a+b, say a-1/2b, b = 0: the code of the example e08.
EXAMPLE = Code(2, (0,), (at_once({0: (0, 1, 0), 1: (1, 1, 0)}), say(1, "-1/2", 0), at_once({1: (0, 0, 0)})))
# a is told and taken down to 0, b being multiplied by it; then b is told.
ROUNDS = Code(2, (1,), (
    same((1, 0, 0), (0, 0, 0), 4),
    say(1, 0, 0),
    at_once({0: (1, 0, -1), 1: (1, 2, 0)}),
    ("go", 0),
    say(0, 1, 0),
))
# Calls itself a times, and then goes back so often; c counts the ways back.
CALLS = Code(3, (1, 2), (
    ("call", 2),
    ("go", 7),
    same((1, 0, 0, 0), (0, 0, 0, 0), 5),
    at_once({0: (1, 0, 0, -1), 1: (0, 1, 0, 2)}),
    ("call", 2),
    at_once({2: (0, 0, 1, 1)}),
    ("back",),
))
# Exchanges and turns, with cells that nobody reads any more.
TURNS = Code(4, (0, 1), (
    at_once({0: (0, 1, 0, 0, 0), 1: (1, 0, 0, 0, 0), 2: (0, 0, 0, 1, 0), 3: (0, 0, 1, 0, 0)}),
    less((1, 0, 0, 0, 0), (0, 1, 0, 0, 0), 3),
    at_once({0: (0, 0, 1, 0, 0), 1: (1, 0, 0, 0, "1/2"), 3: (7, 0, 0, 0, 0)}),
    at_once({0: (1, 1, 0, 0, 0), 1: (1, -1, 0, 0, 0), 2: (0, 0, 0, 0, 0)}),
))
# Five cells, each of which gets what the next one holds, and a row that changes nothing.
WIDE = Code(5, (0, 1, 2, 3, 4), (
    at_once({cell: [int(place == (cell + 1) % 5) for place in range(6)] for cell in range(5)}),
    at_once({2: (0, 0, 1, 0, 0, 0)}),
    say(1, 10, 100, 1000, 10000, 100000),
))
CODES = [EXAMPLE, ROUNDS, CALLS, TURNS, WIDE]


def value(total, held):
    """What a SUM is, if the cells hold these Fractions."""
    return sum(k * one for k, one in zip(fractions(total), [*held, Fraction(1)]))


def set_done(a_row, held):
    behind = list(held)
    for cell, total in a_row[1]:
        behind[cell] = value(total, held)
    return behind


def word_of(code, at, kept):
    if at == len(code.rows):
        return "end"
    sort = code.rows[at][0]
    if (sort == "call" and len(kept) == MOST_CALLS) or (sort == "back" and not kept):
        return "fault"
    return "on"


def gone(a_row, at, held, kept):
    """The row at which a run stands behind a row, and what is remembered."""
    sort = a_row[0]
    if sort == "less":
        return (a_row[3] if value(a_row[1], held) < value(a_row[2], held) else at + 1), kept
    if sort == "same":
        return (a_row[3] if value(a_row[1], held) == value(a_row[2], held) else at + 1), kept
    if sort == "go":
        return a_row[1], kept
    if sort == "call":
        return a_row[1], kept + [at + 1]
    if sort == "back":
        return kept[-1], kept[:-1]
    return at + 1, kept


def places_of(code, begins, most):
    """At each place of a plain run: row, what the cells hold, what is remembered, what was said."""
    at, held, kept, said = 0, fractions(begins), [], []
    places = [(at, held, kept, said)]
    while len(places) <= most and word_of(code, at, kept) == "on":
        a_row = code.rows[at]
        if a_row[0] == "say":
            said = said + [value(a_row[1], held)]
        if a_row[0] == "set":
            held = set_done(a_row, held)
        at, kept = gone(a_row, at, held, kept)
        places.append((at, held, kept, said))
    return places


def told_plainly(code, begins, most):
    """What plain is to tell."""
    at, held, kept, said = places_of(code, begins, most)[-1]
    word = word_of(code, at, kept)
    outs = tuple(number(held[cell]) for cell in code.outs) if word == "end" else None
    return (tuple(number(one) for one in said), word, outs)


def next_of(code, at):
    if at == len(code.rows):
        return []
    a_row = code.rows[at]
    if a_row[0] in ("set", "say"):
        return [at + 1]
    if a_row[0] in ("less", "same"):
        return [at + 1, a_row[3]]
    if a_row[0] in ("go", "call"):
        return [a_row[1]]
    return [k + 1 for k, other in enumerate(code.rows) if other[0] == "call"]


def reads(code, at, cell):
    if at == len(code.rows):
        return cell in code.outs
    a_row = code.rows[at]
    if a_row[0] == "set":
        return any(total[cell] != (0, 1) for _, total in a_row[1])
    if a_row[0] in ("say", "less", "same"):
        return any(total[cell] != (0, 1) for total in a_row[1:3] if isinstance(total, tuple))
    return False


def sets_it(code, at, cell):
    return at < len(code.rows) and code.rows[at][0] == "set" and cell in [pair[0] for pair in code.rows[at][1]]


def is_live(code, at, cell):
    """Whether from this row on some way comes to a row that reads the cell, ahead of one that sets it."""
    seen, queue = {at}, [at]
    while queue:
        here = queue.pop()
        if reads(code, here, cell):
            return True
        if not sets_it(code, here, cell):
            for later in next_of(code, here):
                if later not in seen:
                    seen.add(later)
                    queue.append(later)
    return False


def live_of(code):
    """What live is to tell."""
    return tuple(tuple(cell for cell in range(code.cells) if is_live(code, at, cell))
                 for at in range(len(code.rows) + 1))


def house_rows(code, at):
    """The rows of wish_at of a set row, as lists of Fractions or None."""
    needed = live_of(code)[at + 1]
    sums = dict(code.rows[at][1])
    rows = []
    for cell in range(code.cells):
        if cell not in needed:
            rows.append(None)
        else:
            rows.append(fractions(sums[cell]) if cell in sums else unit(cell, code.cells + 1))
    return rows + [unit(code.cells, code.cells + 1)]


def told_rows(code, spare, program, at, moment):
    """The rows, by house and spare cells, of what stands in all cells at a moment of a set row."""
    many = code.cells + 1 + spare
    rows = [unit(cell, many) for cell in range(many)]
    for cell, multiples in program[:moment]:
        columns = list(zip(*rows))
        rows[cell] = [sum(k * one for k, one in zip(fractions(multiples), column)) for column in columns]
    return rows


def is_sum_of(a_row, rows):
    return rank([*rows, a_row]) == rank(rows)


def is_set(code, at):
    return at < len(code.rows) and code.rows[at][0] == "set"


def made_by(a_wish, program):
    """Whether a program of right form makes a wish."""
    return fulfils(a_wish, singly(program))


def drawn_code(chance, cells=None):
    """A code drawn with small numbers; it may run on and on, or into a fault."""
    cells = cells or chance.randrange(1, 6)
    many = chance.randrange(0, 9)

    def total():
        return row(*[Fraction(chance.choice([0, 0, 0, 1, 1, -1, 2]), chance.choice([1, 1, 1, 2, 3]))
                     for _ in range(cells + 1)])

    rows = []
    for _ in range(many):
        sort = chance.choice(["set"] * 6 + ["say", "say", "less", "same", "go", "call", "back"])
        to = chance.randrange(many + 1)
        if sort == "set":
            chosen = sorted(chance.sample(range(cells), chance.randrange(1, cells + 1)))
            rows.append((sort, tuple((cell, total()) for cell in chosen)))
        elif sort == "say":
            rows.append((sort, total()))
        elif sort in ("less", "same"):
            rows.append((sort, total(), total(), to))
        else:
            rows.append((sort,) if sort == "back" else (sort, to))
    outs = tuple(cell for cell in range(cells) if chance.random() < 0.5)
    return Code(cells, outs, tuple(rows))


def drawn_begins(chance, code):
    return row(*[Fraction(chance.randrange(-4, 5), chance.choice([1, 1, 2, 3])) for _ in range(code.cells)])


class Leader:
    """What a Runner is to show, kept by hand: all places where it stood, the last one being the present one."""

    def __init__(self, code, spare, programs, begins):
        self.code, self.spare, self.programs = code, spare, programs
        first = fractions(begins) + [Fraction(1)] + [Fraction(0)] * spare
        self.places = [(0, 0, first, first, [], [])]

    def word(self):
        at, _, _, _, kept, _ = self.places[-1]
        word = word_of(self.code, at, kept)
        return "runs" if word == "on" else word

    def step(self):
        at, moment, held, begun, kept, said = self.places[-1]
        program = self.programs[at]
        a_row = self.code.rows[at]
        if program:
            cell, multiples = program[moment]
            behind = list(held)
            behind[cell] = sum(k * one for k, one in zip(fractions(multiples), held))
            if moment + 1 < len(program):
                self.places.append((at, moment + 1, behind, begun, kept, said))
            else:
                self.places.append((at + 1, 0, behind, behind, kept, said))
        else:
            house = held[:self.code.cells]
            if a_row[0] == "say":
                said = said + [value(a_row[1], house)]
            to, kept = gone(a_row, at, house, kept)
            self.places.append((to, 0, held, held, kept, said))

    def rows_now(self):
        at, moment = self.places[-1][:2]
        return told_rows(self.code, self.spare, self.programs[at], at, moment)

    def was(self, cell):
        at, _, held, begun, _, _ = self.places[-1]
        if not is_set(self.code, at):
            return number(held[cell])
        if not is_sum_of(unit(cell, self.code.cells + 1 + self.spare), self.rows_now()):
            return None
        return number(begun[cell])

    def will(self, cell):
        at, _, _, begun, _, _ = self.places[-1]
        if not is_set(self.code, at):
            return None
        wished = house_rows(self.code, at)[cell]
        if wished is None or not is_sum_of(wished + [Fraction(0)] * self.spare, self.rows_now()):
            return None
        return number(sum(k * one for k, one in zip(wished, begun)))

    def shown(self):
        """All that shown tells of a Runner."""
        at, moment, held, _, kept, said = self.places[-1]
        house = range(self.code.cells + 1)
        return (self.word(), at, moment, row(*held), row(*said), tuple(kept), len(self.places) - 1,
                [self.was(cell) for cell in house], [self.will(cell) for cell in house])


def shown(runner, cells):
    """All that a Runner of so many cells tells, but its breaks."""
    return (runner.word(), runner.row(), runner.moment(), runner.contents(), runner.said(), runner.remembered(),
            runner.steps(), [runner.was(cell) for cell in range(cells + 1)],
            [runner.will(cell) for cell in range(cells + 1)])
