"""Letter programs of one pass and of a pass there and back, and the fewest letter writings."""

from oncetwice.errors import NoOrder, NotOnto, TooMany
from oncetwice.kinds import is_from_to, is_tuple_of
from oncetwice.matching import coloured
from oncetwice.tables import Table, contents_of, place_of

MOST_SEARCHED = 4


def is_pass(table, thing):
    """Whether a thing is a pass: a tuple of all cells, each once."""
    if not is_tuple_of(thing, table.cells):
        return False
    if not all([is_from_to(cell, 0, table.cells - 1) for cell in thing]):
        return False
    return sorted(thing) == list(range(table.cells))


def check_pass(table, order):
    """Raises NoOrder for what is no pass of the table."""
    if not is_pass(table, order):
        raise NoOrder()


def begins_of(table):
    """The ascending list of all contents of a table."""
    return contents_of(table.letters, table.cells)


def moments_of(table, order):
    """For each moment of a pass the list of the contents to which all contents are led.

    In one pass each writing has to write the end: so the moments are the same for all programs.
    """
    moments = [begins_of(table)]
    for cell in order:
        moments.append(with_letters(moments[-1], cell, [end[cell] for end in table.ends]))
    return moments


def with_letters(contents, cell, letters):
    """The list of these contents with these letters in this cell."""
    return [changed(content, cell, letter) for content, letter in zip(contents, letters)]


def changed(content, cell, letter):
    """This content with another letter in this cell."""
    return content[:cell] + (letter,) + content[cell + 1:]


def collision(table, order):
    """The least moment of a pass, with the least two contents, at which unlike ends fall together."""
    check_pass(table, order)
    begins = begins_of(table)
    for moment, led in enumerate(moments_of(table, order)):
        for one in range(len(begins)):
            for other in range(one + 1, len(begins)):
                if led[one] == led[other] and table.ends[one] != table.ends[other]:
                    return (moment, begins[one], begins[other])
    return None


def one_pass(table, order):
    """A letter program of this pass that leads each content to its end, None if there is none."""
    if collision(table, order) is not None:
        return None
    return leading(table, order, moments_of(table, order))


def leading(table, order, moments):
    """The letter program of this order that leads from each moment to the next one."""
    program = []
    for at, cell in enumerate(order):
        program.append((cell, letter_row(table, cell, moments[at], moments[at + 1])))
    return tuple(program)


def letter_row(table, cell, ahead, after):
    """The row of a writing of this cell that leads the contents ahead to those after it.

    Nothing is led to the other contents; for them the row has the first letter.
    """
    row = [0] * len(table.ends)
    for content, later in zip(ahead, after):
        row[place_of(table, content)] = later[cell]
    return tuple(row)


def is_unlike(table):
    """Whether all ends of a table are unlike."""
    return isinstance(table, Table) and len(set(table.ends)) == len(table.ends)


def there_and_back(table, order):
    """A letter program that writes the cells of a pass and then back, and leads each content to its end.

    On the way there each cell but the last one gets a colour in the place of its letter. Contents
    that differ in a later cell, or are to, stay apart then: so the last cell can get its letter of
    the end at once, and so can the others on the way back, the latest first.
    """
    if not is_unlike(table):
        raise NotOnto()
    check_pass(table, order)
    moments = [begins_of(table)]
    for at in range(len(order) - 1):
        cell, done = order[at], order[:at]
        ahead = [without(content, (cell,)) for content in moments[-1]]
        wanted = [mixed(content, end, done) for content, end in zip(moments[-1], table.ends)]
        behind = [without(content, (cell,)) for content in wanted]
        moments.append(with_letters(moments[-1], cell, coloured(ahead, behind)))
    back = order[::-1]
    for cell in back:
        moments.append(with_letters(moments[-1], cell, [end[cell] for end in table.ends]))
    return leading(table, order[:-1] + back, moments)


def without(content, cells):
    """The tuple of the letters of a content but those in these cells."""
    return tuple([letter for cell, letter in enumerate(content) if cell not in cells])


def mixed(content, end, done):
    """The content that has the letters of content in the done cells, those of the end in the others."""
    return tuple([content[cell] if cell in done else end[cell] for cell in range(len(content))])


def fewest_letters(table):
    """The fewest writings of a letter program that leads each content to its end."""
    if not isinstance(table, Table) or len(table.ends) > MOST_SEARCHED:
        raise TooMany(MOST_SEARCHED)
    reached = {tuple(begins_of(table)): 0}
    queue = [tuple(begins_of(table))]
    while table.ends not in reached:
        later = []
        for contents in queue:
            for behind in led_by_one(table, contents):
                if behind not in reached:
                    reached[behind] = reached[contents] + 1
                    later.append(behind)
        queue = later
    return reached[table.ends]


def led_by_one(table, contents):
    """The list of what these contents can be led to by one letter writing."""
    found = []
    for cell in range(table.cells):
        for row in contents_of(table.letters, len(table.ends)):
            letters = [row[place_of(table, content)] for content in contents]
            found.append(tuple(with_letters(contents, cell, letters)))
    return found
