"""Desks: all that the package does, by lines."""

from oncetwice.codes import plain
from oncetwice.compiling import compiled, cost
from oncetwice.errors import NoLine, NoName, NoRunner, NothingDone
from oncetwice.fewest import fewest, shortest
from oncetwice.orders import fault
from oncetwice.runners import Runner
from oncetwice.sources import source, translated
from oncetwice.texts import read_wish
from oncetwice.words import all_read, cell_words, is_name, number_word, number_words
from oncetwice.words import read_numbers, read_whole, read_wholes, spaced

DONE = "ok"
NEVER = "never"
NONE = "none"
OPEN = "open"
GOOD = "good"
WISH = "wish"
CODE = "code"
START = "start"
STEP = "step"

# What stands behind the word of each line.
FORMS = {
    "wish": ("name", "text"),
    "code": ("name", "text"),
    "start": ("name", "whole", "numbers"),
    "undo": (),
    "fewest": ("name",),
    "order": ("name",),
    "fault": ("name", "cells"),
    "plain": ("name", "whole", "numbers"),
    "source": ("name",),
    "cost": ("name", "whole"),
    "step": ("whole",),
    "at": (),
    "holds": (),
    "said": (),
    "was": ("whole",),
    "will": ("whole",),
}


def read_line(line):
    """The pair of the first word of a line and of the tuple of what stands behind it."""
    if not isinstance(line, str) or "\n" in line:
        raise NoLine()
    words = line.split(" ")
    if words[0] not in FORMS:
        raise NoLine()
    told = read_told(FORMS[words[0]], words[1:])
    if told is None:
        raise NoLine()
    return (words[0], told)


def read_told(form, words):
    """The tuple of what these words tell by this form, None if they have not this form."""
    parts = words
    if form:
        # What is left over belongs to the last part; only texts and numbers may have blanks in them.
        last = len(form) - 1
        parts = [*words[:last], spaced(words[last:])]
    if len(parts) != len(form):
        return None
    return all_read([read_part(kind, part) for kind, part in zip(form, parts)])


def read_part(kind, part):
    """What a part of a line of this kind tells, None if it is none."""
    if kind == "name":
        return part if is_name(part) else None
    if kind == "text":
        return part.replace("|", "\n") if part != "" else None
    if kind == "whole":
        return read_whole(part)
    if kind == "numbers":
        return read_numbers(part.split(" "))
    return () if part == NONE else read_wholes(part.split(","))


def kept_under(kept, name):
    """What is kept under this name."""
    if name not in kept:
        raise NoName(name)
    return kept[name]


def runner_of(desk):
    """The Runner of a desk."""
    if desk.runner is None:
        raise NoRunner()
    return desk.runner


def cells_word(cells):
    """The word that is written for a tuple of cells."""
    return ",".join(cell_words(cells)) if cells else NONE


def keep_wish(desk, told):
    """Keeps a wish under a name."""
    name, text = told
    wish = read_wish(text)
    desk.past.append((WISH, name, desk.wishes.get(name, None)))
    desk.wishes[name] = wish
    return DONE


def keep_code(desk, told):
    """Keeps a code under a name."""
    name, text = told
    code = translated(text)
    desk.past.append((CODE, name, desk.codes.get(name, None)))
    desk.codes[name] = code
    return DONE


def start_runner(desk, told):
    """Starts a Runner of a code."""
    name, spare, begins = told
    code = kept_under(desk.codes, name)
    runner = Runner(code, spare, compiled(code, spare), begins)
    desk.past.append((START, name, desk.runner))
    desk.runner = runner
    return DONE


def step_runner(desk, told):
    """Leads the Runner on; how many steps were done."""
    many = runner_of(desk).go(told[0])
    desk.past.append((STEP, many, None))
    return str(many)


def undo_last(desk, _):
    """Takes back the last line that changed something and is not taken back."""
    if not desk.past:
        raise NothingDone()
    sort, what, elder = desk.past.pop()
    if sort == WISH:
        put_back(desk.wishes, what, elder)
    elif sort == CODE:
        put_back(desk.codes, what, elder)
    elif sort == START:
        desk.runner = elder
    else:
        lead_back(desk.runner, what)
    return DONE


def lead_back(runner, many):
    """Takes so many steps of a Runner back."""
    for _ in range(many):
        runner.back()


def put_back(kept, name, elder):
    """Keeps under a name again what was kept under it before, perhaps nothing."""
    if elder is None:
        del kept[name]
    else:
        kept[name] = elder


def tell_fewest(desk, told):
    """The fewest writings of a wish."""
    many = fewest(kept_under(desk.wishes, told[0]))
    return NEVER if many is None else str(many)


def tell_order(desk, told):
    """The shortest order of a wish."""
    order = shortest(kept_under(desk.wishes, told[0]))
    return NEVER if order is None else cells_word(order)


def tell_fault(desk, told):
    """The first fault of an order of a wish."""
    name, order = told
    found = fault(kept_under(desk.wishes, name), order)
    if found is None:
        return GOOD
    words = [found[0], str(found[1])]
    if len(found) > 2:
        words.append(cells_word(found[2]))
    return spaced(words)


def tell_plain(desk, told):
    """The word for where a plain run of a code stands, and the numbers said."""
    name, most, begins = told
    said, word, _ = plain(kept_under(desk.codes, name), begins, most)
    return spaced([word, *number_words(said)])


def tell_source(desk, told):
    """The text of a code."""
    return source(kept_under(desk.codes, told[0])).replace("\n", "|")


def tell_cost(desk, told):
    """How many writings a code has, if it is compiled."""
    name, spare = told
    return str(cost(kept_under(desk.codes, name), spare))


def tell_at(desk, _):
    """The row, the moment and the word of the Runner."""
    runner = runner_of(desk)
    return spaced([str(runner.row()), str(runner.moment()), runner.word()])


def tell_holds(desk, _):
    """What the house and spare cells of the Runner hold."""
    return spaced(number_words(runner_of(desk).contents()))


def tell_said(desk, _):
    """The numbers that the Runner said."""
    said = runner_of(desk).said()
    return spaced(number_words(said)) if said else NONE


def tell_was(desk, told):
    """What a cell of the Runner held when its row was begun."""
    return known_word(runner_of(desk).was(told[0]))


def tell_will(desk, told):
    """What a cell of the Runner is to hold behind its row."""
    return known_word(runner_of(desk).will(told[0]))


def known_word(number):
    """The word that is written for a number that is perhaps not known."""
    return OPEN if number is None else number_word(number)


ACTIONS = {
    "wish": keep_wish,
    "code": keep_code,
    "start": start_runner,
    "undo": undo_last,
    "fewest": tell_fewest,
    "order": tell_order,
    "fault": tell_fault,
    "plain": tell_plain,
    "source": tell_source,
    "cost": tell_cost,
    "step": step_runner,
    "at": tell_at,
    "holds": tell_holds,
    "said": tell_said,
    "was": tell_was,
    "will": tell_will,
}


class Desk:
    """Wishes and codes kept under names, and a Runner, all led by lines."""

    def __init__(self):
        self.wishes = {}
        self.codes = {}
        self.runner = None
        self.past = []

    def tell(self, line):
        """Does what a line tells, and returns the answer."""
        word, told = read_line(line)
        action = ACTIONS[word]
        return action(self, told)

    def undoable(self):
        """How many lines can be taken back."""
        return len(self.past)
