"""Texts of wishes and of programs."""

from oncetwice.errors import BadText, NoProgram
from oncetwice.wishes import Wish, is_program
from oncetwice.words import cell_words, closed_lines, joined_lines, number_words, spaced
from oncetwice.words import read_numbers, read_whole, read_wholes

# How many lines of a wish stand ahead of those of its cells.
HEADS = 3


def wish_text(wish):
    """The text of a wish."""
    lines = [f"cells {len(wish.rows)}", f"spare {wish.spare}", spaced(["locked", *cell_words(wish.locked)])]
    for row in wish.rows:
        if row is None:
            lines.append("free")
        else:
            lines.append(spaced(["row", *number_words(row)]))
    return joined_lines(lines)


def program_text(program):
    """The text of a program."""
    return joined_lines([spaced(["write", str(cell), *number_words(row)]) for cell, row in program])


def check_text(text):
    """Raises BadText for what is no string."""
    if not isinstance(text, str):
        raise BadText(0)


def read_wish(text):
    """The Wish that a text tells."""
    check_text(text)
    lines, rest = closed_lines(text)
    many = read_head(lines, 0, "cells")
    spare = read_head(lines, 1, "spare")
    locked = read_locked(lines, 2)
    rows = tuple([read_item(lines, at) for at in range(HEADS, HEADS + many)])
    if len(lines) > HEADS + many or rest != "":
        raise BadText(HEADS + many + 1)
    return Wish(rows, locked, spare)


def words_at(lines, at):
    """The list of the words of the line at this place; BadText if it lacks."""
    if at >= len(lines):
        raise BadText(at + 1)
    return lines[at].split(" ")


def read_head(lines, at, head):
    """The integer of the line at this place, which has this word ahead of it."""
    words = words_at(lines, at)
    whole = read_whole(words[-1])
    if whole is None or words[:-1] != [head]:
        raise BadText(at + 1)
    return whole


def read_locked(lines, at):
    """The tuple of the cells of the line at this place."""
    words = words_at(lines, at)
    cells = read_wholes(words[1:])
    if cells is None or words[0] != "locked":
        raise BadText(at + 1)
    return cells


def read_item(lines, at):
    """The row of the line at this place, None if it tells that the cell is free."""
    words = words_at(lines, at)
    if words == ["free"]:
        return None
    row = read_numbers(words[1:])
    if row is None or words[0] != "row":
        raise BadText(at + 1)
    return row


def read_program(wish, text):
    """The program of a wish that a text tells."""
    check_text(text)
    lines, rest = closed_lines(text)
    program = tuple([read_writing(lines, at) for at in range(len(lines))])
    if rest != "":
        raise BadText(len(lines) + 1)
    if not is_program(wish, program):
        raise NoProgram()
    return program


def read_writing(lines, at):
    """The writing of the line at this place."""
    words = words_at(lines, at)
    cells = read_wholes(words[1:2])
    row = read_numbers(words[2:])
    if words[0] != "write" or not cells or row is None:
        raise BadText(at + 1)
    return (cells[0], row)
