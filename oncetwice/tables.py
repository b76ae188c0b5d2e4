"""Tables: what cells that hold letters are to hold, and the programs that write letters."""

from oncetwice.errors import BadTable, NoContents, NoProgram
from oncetwice.kinds import is_from_to, is_tuple_of

LEAST_LETTERS = 2
MOST_LETTERS = 3
MOST_LETTER_CELLS = 4
MOST_LETTER_WRITINGS = 40


class Table:
    """For each content of cells that hold letters the content that is wished for it."""

    def __init__(self, letters, cells, ends):
        check_table(letters, cells, ends)
        self.letters = letters
        self.cells = cells
        self.ends = ends

    def __eq__(self, other):
        return (isinstance(other, Table) and self.letters == other.letters
                and self.cells == other.cells and self.ends == other.ends)


def check_table(letters, cells, ends):
    """Raises BadTable for what no table can be made of."""
    if not is_from_to(letters, LEAST_LETTERS, MOST_LETTERS):
        raise BadTable(("letters",))
    if not is_from_to(cells, 1, MOST_LETTER_CELLS):
        raise BadTable(("cells",))
    if not is_tuple_of(ends, len(contents_of(letters, cells))):
        raise BadTable(("ends",))
    for place, end in enumerate(ends):
        if not is_letter_row(letters, end, cells):
            raise BadTable(("end", place))


def contents_of(letters, cells):
    """The ascending list of all tuples of so many cells of so many letters."""
    found = [()]
    for _ in range(cells):
        found = [(*content, letter) for content in found for letter in range(letters)]
    return found


def is_letter_row(letters, thing, many):
    """Whether a thing is a tuple of so many letters, of which there are letters."""
    return is_tuple_of(thing, many) and all([is_from_to(letter, 0, letters - 1) for letter in thing])


def is_content(table, thing):
    """Whether a thing is a content of the cells of a table."""
    return is_letter_row(table.letters, thing, table.cells)


def is_letter_writing(table, thing):
    """Whether a thing is a letter writing: a cell, and a letter for each content."""
    if not is_tuple_of(thing, 2) or not is_from_to(thing[0], 0, table.cells - 1):
        return False
    return is_letter_row(table.letters, thing[1], len(table.ends))


def is_letters(table, thing):
    """Whether a thing is a letter program: a tuple of at most 40 letter writings."""
    if not isinstance(thing, tuple) or len(thing) > MOST_LETTER_WRITINGS:
        return False
    return all([is_letter_writing(table, writing) for writing in thing])


def check_letters(table, program):
    """Raises NoProgram for what is no letter program of the table."""
    if not is_letters(table, program):
        raise NoProgram()


def place_of(table, content):
    """The place of a content among all of them, ascending."""
    place = 0
    for letter in content:
        place = place * table.letters + letter
    return place


def content_behind(table, program, content):
    """The content behind a letter program that begins with this one."""
    held = list(content)
    for cell, row in program:
        held[cell] = row[place_of(table, held)]
    return tuple(held)


def letters_ran(table, program, content):
    """The content behind a letter program, if the cells hold this one at first."""
    check_letters(table, program)
    if not is_content(table, content):
        raise NoContents()
    return content_behind(table, program, content)


def letters_make(table, program):
    """Whether a letter program leads each content to its end."""
    check_letters(table, program)
    contents = contents_of(table.letters, table.cells)
    return all([content_behind(table, program, content) == end for content, end in zip(contents, table.ends)])
