"""Words of texts: integers, numbers and names, read and written."""

from oncetwice.kinds import is_number

FIGURES = "0123456789"
LETTERS = "abcdefghijklmnopqrstuvwxyz"
MOST_FIGURES = 9
MOST_NAME_LETTERS = 8
NO_NAMES = ("cells", "outs", "say", "if", "go", "call", "back")


def decimal(whole):
    """The figures of an integer from 0 on, however long it is.

    They are written by 64 at once, for Python itself writes no integer of more than some thousands.
    """
    chunk = 10 ** 64
    written = []
    rest = whole
    while rest >= chunk:
        written.append(str(rest % chunk).zfill(64))
        rest = rest // chunk
    written.append(str(rest))
    return "".join(written[::-1])


def number_word(number):
    """The word that is written for a number."""
    top, bottom = number
    word = decimal(abs(top)) if bottom == 1 else decimal(abs(top)) + "/" + decimal(bottom)
    return "-" + word if top < 0 else word


def number_words(numbers):
    """The list of the words that are written for these numbers."""
    return [number_word(number) for number in numbers]


def cell_words(cells):
    """The list of the words that are written for these cells."""
    return [str(cell) for cell in cells]


def spaced(words):
    """The line of these words, one blank between two."""
    return " ".join(words)


def joined_lines(lines):
    """The text of these lines, each closed by a line feed."""
    return "".join([line + "\n" for line in lines])


def closed_lines(text):
    """The pair of the list of the lines that a line feed closes, and of what stands behind the last one."""
    pieces = text.split("\n")
    return (pieces[:-1], pieces[-1])


def is_of(word, signs, most):
    """Whether a word has one of these signs at least, so many at most, and no others."""
    return 1 <= len(word) <= most and all([sign in signs for sign in word])


def is_name(word):
    """Whether a word is a name."""
    return is_of(word, LETTERS, MOST_NAME_LETTERS) and word not in NO_NAMES


def read_whole(word):
    """The integer that a word tells without a sign, None if it tells none."""
    if not is_of(word, FIGURES, MOST_FIGURES) or (word[0] == "0" and word != "0"):
        return None
    return int(word)


def read_unsigned(word):
    """The number that a word tells without a sign, None if it tells none."""
    high, stroke, low = word.partition("/")
    top = read_whole(high)
    bottom = read_whole(low) if stroke != "" else 1
    if not is_number((top, bottom)) or (stroke != "" and bottom == 1):
        return None
    return (top, bottom)


def read_number(word):
    """The number that a word tells, None if it tells none."""
    if not word.startswith("-"):
        return read_unsigned(word)
    number = read_unsigned(word[1:])
    if number is None or number[0] == 0:
        return None
    return (-number[0], number[1])


def read_wholes(words):
    """The tuple of the integers that these words tell, None if one of them tells none."""
    return all_read([read_whole(word) for word in words])


def read_numbers(words):
    """The tuple of the numbers that these words tell, None if one of them tells none."""
    return all_read([read_number(word) for word in words])


def all_read(found):
    """The tuple of what was read, None if something was not."""
    if None in found:
        return None
    return tuple(found)
