"""Sources: codes written as texts."""

from oncetwice.coderows import BACK, CALL, GO, LESS, SAME, SAY, SET, goal_of, set_cells, totals_of
from oncetwice.codes import MOST_CODE_CELLS, Code
from oncetwice.errors import BadText
from oncetwice.sums import NOUGHT, ONE, weighed
from oncetwice.texts import check_text, words_at
from oncetwice.words import LETTERS, all_read, closed_lines, is_name, joined_lines, number_word, read_unsigned, spaced

# How many lines of a source stand ahead of those of its rows.
HEADS = 2
MINUS_ONE = (-1, 1)


def translated(text):
    """The Code that a source tells."""
    check_text(text)
    lines, rest = closed_lines(text)
    cells = read_cells(lines, 0)
    outs = read_outs(lines, 1, cells)
    rows = read_rows(lines, cells)
    if rest != "":
        raise BadText(len(lines) + 1)
    return Code(len(cells), outs, rows)


def are_unlike(words):
    """Whether no word stands twice among these."""
    return len(set(words)) == len(words)


def read_cells(lines, at):
    """The dict of the numbers of the cells by their names, as the line at this place tells them."""
    words = words_at(lines, at)
    names = words[1:]
    if words[0] != "cells" or not 1 <= len(names) <= MOST_CODE_CELLS or not are_unlike(names):
        raise BadText(at + 1)
    if not all([is_name(name) for name in names]):
        raise BadText(at + 1)
    return {name: cell for cell, name in enumerate(names)}


def read_outs(lines, at, cells):
    """The lot of the outs that the line at this place tells."""
    words = words_at(lines, at)
    names = words[1:]
    if words[0] != "outs" or not are_unlike(names) or not all([name in cells for name in names]):
        raise BadText(at + 1)
    return tuple(sorted([cells[name] for name in names]))


def read_rows(lines, cells):
    """The tuple of the rows that the lines behind the first two tell."""
    labels = standing_labels(lines)
    rows = []
    stood = {}
    for at in range(HEADS, len(lines)):
        label = label_of(lines[at])
        if label is None:
            row = read_row(lines[at].split(" "), cells, labels)
            if row is None:
                raise BadText(at + 1)
            rows.append(row)
        elif label in stood:
            raise BadText(at + 1)
        else:
            stood[label] = True
    return tuple(rows)


def label_of(line):
    """The label that stands in a line, None if it is no line of a label."""
    if line.endswith(":") and is_name(line[:-1]):
        return line[:-1]
    return None


def standing_labels(lines):
    """The dict of the numbers of the rows by the labels that stand ahead of them."""
    labels = {}
    number = 0
    for line in lines[HEADS:]:
        label = label_of(line)
        if label is None:
            number += 1
        elif label not in labels:
            labels[label] = number
    return labels


def read_row(words, cells, labels):
    """The row that the words of a line tell, None if they tell none."""
    if words == ["back"]:
        return (BACK,)
    if len(words) == 2 and words[0] in (GO, CALL) and words[1] in labels:
        return (words[0], labels[words[1]])
    if len(words) == 2 and words[0] == SAY:
        total = read_total(words[1], cells)
        return None if total is None else (SAY, total)
    if len(words) == 5 and words[0] == "if":
        return read_test(words, cells, labels)
    if "=" in words:
        return read_sets(words, cells)
    return None


def read_test(words, cells, labels):
    """The less or same row that the words of a line tell, None if they tell none."""
    _, one, sign, other, label = words
    totals = read_totals([one, other], cells)
    if totals is None or sign not in ("<", "=") or label not in labels:
        return None
    return (LESS if sign == "<" else SAME, totals[0], totals[1], labels[label])


def read_sets(words, cells):
    """The set row that the words of a line tell, None if they tell none."""
    at = words.index("=")
    names = words[:at]
    totals = read_totals(words[at + 1:], cells)
    if totals is None or not names or len(names) != len(totals):
        return None
    if not are_unlike(names) or not all([name in cells for name in names]):
        return None
    return (SET, tuple(sorted([(cells[name], total) for name, total in zip(names, totals)])))


def read_totals(words, cells):
    """The tuple of the SUMs that these expressions tell, None if one of them tells none."""
    return all_read([read_total(word, cells) for word in words])


def read_total(word, cells):
    """The SUM that an expression tells, None if it tells none."""
    terms = all_read([read_term(term, cells) for term in signed_terms(word)])
    if terms is None:
        return None
    total = []
    for place in range(len(cells) + 1):
        numbers = [number for where, number in terms if where == place]
        total.append(weighed((ONE,) * len(numbers), numbers))
    return tuple(total)


def signed_terms(word):
    """The list of the terms of an expression, with `-` ahead where it stands there."""
    marked = word.replace("-", "+-")
    if word.startswith("-"):
        marked = marked[1:]
    return marked.split("+")


def read_term(word, cells):
    """The pair of the place in a SUM and of the number that a term adds there, None if it is none."""
    bare = word[1:] if word.startswith("-") else word
    at = count_ahead_of_name(bare)
    number = read_unsigned(bare[:at]) if at > 0 else ONE
    place = cells.get(bare[at:], None) if at < len(bare) else len(cells)
    if bare == "" or number is None or place is None:
        return None
    return (place, number) if bare == word else (place, (-number[0], number[1]))


def count_ahead_of_name(term):
    """How many signs of a term stand ahead of its first letter."""
    for at, sign in enumerate(term):
        if sign in LETTERS:
            return at
    return len(term)


def source(code):
    """The text that tells a code."""
    names = LETTERS[:code.cells]
    labels = needed_labels(code)
    lines = [spaced(["cells", *names]), spaced(["outs", *[names[cell] for cell in code.outs]])]
    for at, row in enumerate(code.rows):
        if at in labels:
            lines.append(labels[at] + ":")
        lines.append(row_line(row, names, labels))
    if len(code.rows) in labels:
        lines.append(labels[len(code.rows)] + ":")
    return joined_lines(lines)


def needed_labels(code):
    """The dict of the labels by the numbers of the rows to which some row tells to go."""
    goals = [goal_of(row) for row in code.rows if goal_of(row) is not None]
    return {goal: label_name(at) for at, goal in enumerate(sorted(set(goals)))}


def label_name(at):
    """The label at this place of all: a to z, then aa, ab and so on."""
    many = len(LETTERS)
    if at < many:
        return LETTERS[at]
    return LETTERS[at // many - 1] + LETTERS[at % many]


def row_line(row, names, labels):
    """The line that tells a row."""
    totals = [total_word(total, names) for total in totals_of(row)]
    if row[0] == SET:
        return spaced([*[names[cell] for cell in set_cells(row)], "=", *totals])
    if row[0] == SAY:
        return spaced([SAY, *totals])
    if row[0] in (LESS, SAME):
        return spaced(["if", totals[0], "<" if row[0] == LESS else "=", totals[1], labels[goal_of(row)]])
    if row[0] in (GO, CALL):
        return spaced([row[0], labels[goal_of(row)]])
    return BACK


def total_word(total, names):
    """The expression that tells a SUM."""
    terms = [term_word(times, name) for times, name in zip(total, names) if times != NOUGHT]
    if total[-1] != NOUGHT or not terms:
        terms.append(number_word(total[-1]))
    word = terms[0]
    for term in terms[1:]:
        word = word + (term if term.startswith("-") else "+" + term)
    return word


def term_word(times, name):
    """The term that tells a multiple, which is not NOUGHT, of what a cell holds."""
    if times == ONE:
        return name
    if times == MINUS_ONE:
        return "-" + name
    return number_word(times) + name
