"""Point 9.1: wish_text, program_text, read_wish, read_program."""

import random
import unittest
from fractions import Fraction

from oncetwice.errors import BadText, BadWish, NoProgram
from oncetwice.making import made
from oncetwice.onto import behind
from oncetwice.texts import program_text, read_program, read_wish, wish_text
from oncetwice.wishes import Wish
from tests.helping import SWAP, TURN, odd_things, some_wishes, wish, writing

MIXED = wish([("1/2", "-2/3", 0), None, (-7, 0, "123456789/987654320")], (0, 2), 1)
MIXED_TEXT = "cells 3\nspare 1\nlocked 0 2\nrow 1/2 -2/3 0\nfree\nrow -7 0 123456789/987654320\n"
PROGRAM = (writing(0, 1, "1/2"), writing(1, "-3/4", 0))
PROGRAM_TEXT = "write 0 1 1/2\nwrite 1 -3/4 0\n"
# What is no number, though some of these are near one.
NO_NUMBERS = [
    "", "-", "+1", "--1", "- 1", "01", "00", "-0", "-01", "1.0", "1e3", "x", "1x", "0x1", "1_0", "1,0", "1/1", "0/1", "0/2",
    "2/4", "6/3", "-2/4", "1/0", "0/0", "1/-2", "1/02", "01/2", "1/", "/2", "/", "1//2", "1/2/3", "1/2 ", "1 /2", "-1/1", "-0/1",
    "-0/5", "1234567890", "-1234567890", "1/1234567890", "1234567890/7", "0000000001", "1000000000", "ONE", "(1,1)", "1\t2",
    "9" * 5000, "1/" + "3" * 5000, "0" * 9, "|", "~", "!", "'1'", "1'",
]
NO_WHOLES = [one for one in NO_NUMBERS] + ["-1", "1/2", "-1/2"]


class WritingTest(unittest.TestCase):

    def test_wishes_by_hand(self):
        self.assertEqual(wish_text(SWAP), "cells 2\nspare 0\nlocked\nrow 0 1\nrow 1 0\n")
        self.assertEqual(wish_text(MIXED), MIXED_TEXT)
        self.assertEqual(wish_text(wish([None], (0,), 2)), "cells 1\nspare 2\nlocked 0\nfree\n")
        self.assertEqual(wish_text(wish([(-1,)])), "cells 1\nspare 0\nlocked\nrow -1\n")
        self.assertEqual(wish_text(wish([None] * 6, (0, 1, 2, 3, 4, 5))), "cells 6\nspare 0\nlocked 0 1 2 3 4 5\n" + "free\n" * 6)

    def test_programs_by_hand(self):
        self.assertEqual(program_text(()), "")
        self.assertEqual(program_text(PROGRAM), PROGRAM_TEXT)
        self.assertEqual(program_text((writing(7, *[0] * 7, "-10/3"),)), "write 7 0 0 0 0 0 0 0 -10/3\n")

    def test_long_numbers(self):
        big = 10 ** 30 - 1
        self.assertEqual(wish_text(wish([(Fraction(-big, 10 ** 29),)])), "cells 1\nspare 0\nlocked\nrow -" + "9" * 30 + "/1" + "0" * 29 + "\n")
        self.assertEqual(program_text((writing(0, 10 ** 29),)), "write 0 1" + "0" * 29 + "\n")

    def test_what_was_returned_may_be_passed_on_whatever_its_size(self):
        grown, many = wish([(10 ** 29,)]), 29
        for _ in range(9):
            grown, many = behind(grown, grown), many * 2
        self.assertGreater(many, 10000)
        self.assertEqual(wish_text(grown), "cells 1\nspare 0\nlocked\nrow 1" + "0" * many + "\n")
        program = made(grown, (0,))
        self.assertEqual(program_text(program), "write 0 1" + "0" * many + "\n")
        grown = wish([(Fraction(-123456789, 10 ** 9),)])
        for _ in range(10):
            grown = behind(grown, grown)
        figures = wish_text(grown).split("row ")[1][:-1].split("/")
        top, bottom = grown.rows[0][0]
        for told, whole in zip(figures, (top, bottom)):
            value = 0
            for at in range(0, len(told), 1000):
                piece = told[at:at + 1000]
                value = value * 10 ** len(piece) + int(piece)
            self.assertEqual(value, whole)
            self.assertGreater(len(told), 4300)
            self.assertNotEqual(told[0], "0")


class ReadWishTest(unittest.TestCase):

    def check(self, line, text):
        with self.assertRaises(BadText) as caught:
            read_wish(text)
        self.assertEqual(caught.exception.line, line, text)

    def check_wish(self, part, text):
        with self.assertRaises(BadWish) as caught:
            read_wish(text)
        self.assertEqual(caught.exception.part, part, text)

    def test_by_hand(self):
        self.assertEqual(read_wish(MIXED_TEXT), MIXED)
        self.assertEqual(read_wish("cells 1\nspare 2\nlocked 0\nfree\n"), wish([None], (0,), 2))
        self.assertIs(type(read_wish(MIXED_TEXT)), Wish)

    def test_read_back(self):
        for a_wish in [SWAP, TURN, MIXED, *some_wishes()]:
            self.assertEqual(read_wish(wish_text(a_wish)), a_wish)

    def test_nine_and_ten_figures(self):
        self.assertEqual(read_wish("cells 1\nspare 0\nlocked\nrow -999999999/999999998\n"),
                         wish([(Fraction(-999999999, 999999998),)]))
        self.check(4, "cells 1\nspare 0\nlocked\nrow 1000000000\n")
        self.check(4, "cells 1\nspare 0\nlocked\nrow 1/1000000000\n")
        self.check(1, "cells 0000000001\nspare 0\nlocked\nfree\n")
        self.check(1, "cells 1000000000\nspare 0\nlocked\nfree\n")

    def test_no_string(self):
        for thing in [*odd_things(), MIXED_TEXT.encode(), [MIXED_TEXT], (MIXED_TEXT,), 0, SWAP, {MIXED_TEXT: 1}]:
            if not isinstance(thing, str):
                self.check(0, thing)

    def test_numbers_that_are_none(self):
        for bad in NO_NUMBERS:
            lines = ["cells 2", "spare 0", "locked 0 1", "row 0 1", "row 1 0"]
            for row_line in [f"row {bad} 1", f"row 1 {bad}", f"row {bad}", f"row 1 0 {bad}"]:
                self.check(4, "\n".join(lines[:3] + [row_line, lines[4]]) + "\n")
                self.check(5, "\n".join(lines[:4] + [row_line]) + "\n")
        for bad in NO_WHOLES:
            self.check(1, f"cells {bad}\nspare 0\nlocked\nrow 0 1\nrow 1 0\n")
            self.check(2, f"cells 2\nspare {bad}\nlocked\nrow 0 1\nrow 1 0\n")
            for locked in [f"locked {bad}", f"locked 0 {bad}", f"locked {bad} 1"]:
                self.check(3, f"cells 2\nspare 0\n{locked}\nrow 0 1\nrow 1 0\n")

    def test_words_and_blanks(self):
        right = MIXED_TEXT.split("\n")[:-1]
        for at, line in enumerate(right):
            word = line.split(" ")[0]
            changed = [line + " ", " " + line, line.replace(" ", "  ", 1) if " " in line else line + "  ", line.upper(),
                       line + " x", line.replace(word, word + "s"), line.replace(word, word[:-1]), line.replace(word, ""),
                       "", " ", "write 0 1 2 3", "\t" + line, line.replace(" ", "\t") if " " in line else line + "\t",
                       line + "\r", line.replace(word, "")[1:], "x" + line, "row x"]
            for bad in changed:
                text = "\n".join(right[:at] + [bad] + right[at + 1:]) + "\n"
                self.check(at + 1, text)
                # The first line that is none is told.
                self.check(at + 1, "\n".join(right[:at] + [bad] + [""] * 9))

    def test_cells_and_spare_have_one_number(self):
        for bad in ["cells", "cells 3 3", "cells ", "cells 3 "]:
            self.check(1, MIXED_TEXT.replace("cells 3", bad))
        for bad in ["spare", "spare 1 1", "spare ", "spare 1 "]:
            self.check(2, MIXED_TEXT.replace("spare 1", bad))
        self.check(5, MIXED_TEXT.replace("free", "free 1"))

    def test_lines_left_out_twice_and_exchanged(self):
        right = MIXED_TEXT.split("\n")[:-1]
        for at in range(6):
            short = right[:at] + right[at + 1:]
            # Behind a lacking line each of the first three is no more what stands there.
            self.check(at + 1 if at < 3 else 6, "\n".join(short) + "\n")
            twice = right[:at + 1] + right[at:]
            self.check(at + 2 if at < 3 else 7, "\n".join(twice) + "\n")
        for at in range(3):
            other = list(right)
            other[at], other[at + 1] = other[at + 1], other[at]
            self.check(at + 1, "\n".join(other) + "\n")

    def test_something_lacks(self):
        lines = MIXED_TEXT.split("\n")[:-1]
        for many in range(6):
            self.check(many + 1, "".join(line + "\n" for line in lines[:many]))
        self.check(1, "")
        self.check(4, "cells 999999999\nspare 0\nlocked\n")
        self.check(5, "cells 999999999\nspare 0\nlocked\nfree\n")

    def test_something_behind_the_last_line_feed(self):
        self.check(6, MIXED_TEXT[:-1])
        self.check(7, MIXED_TEXT + " ")
        self.check(7, MIXED_TEXT + "free")
        self.check(7, MIXED_TEXT + "\n")
        self.check(7, MIXED_TEXT + "free\n")
        self.check(7, MIXED_TEXT + "free\nfree")
        self.check(1, "cells 3")
        self.check(2, "cells 3\nspare 0")
        self.check(3, "cells 3\nspare 0\nlocked")
        self.check(4, "cells 0\nspare 0\nlocked\nfree")

    def test_the_longest_text(self):
        self.check(1, "9" * 20000)
        self.check(1, "\n" * 20000)
        self.check(1, "cells " + "9" * 19994)
        self.check(4, "cells 2\nspare 0\nlocked\nrow " + "1" * 19900 + "\n")

    def test_bad_wish_behind_a_right_form(self):
        self.check_wish(("rows",), "cells 0\nspare 0\nlocked\n")
        self.check_wish(("rows",), "cells 7\nspare 9\nlocked 9 8\n" + "row\n" * 7)
        self.check_wish(("row", 0), "cells 2\nspare 9\nlocked 9 8\nrow 1\nrow 1 2\n")
        self.check_wish(("row", 1), "cells 2\nspare 9\nlocked 9 8\nrow 1 2\nrow 1 2 3\n")
        self.check_wish(("row", 1), "cells 2\nspare 0\nlocked\nfree\nrow\n")
        for locked in ["2", "1 0", "0 0", "0 999999999"]:
            self.check_wish(("locked",), f"cells 2\nspare 9\nlocked {locked}\nrow 1 2\nfree\n")
        self.check_wish(("spare",), "cells 2\nspare 3\nlocked 1\nrow 1 2\nfree\n")
        self.check_wish(("spare",), "cells 2\nspare 999999999\nlocked\nrow 1 2\nfree\n")

    def test_no_form_comes_ahead_of_bad_wish(self):
        self.check(4, "cells 0\nspare 0\nlocked\nfree\n")
        self.check(5, "cells 2\nspare 9\nlocked 9 8\nrow 1\nrow x\n")
        self.check(6, "cells 2\nspare 9\nlocked 9 8\nrow 1\nrow\nx")


class ReadProgramTest(unittest.TestCase):

    def check(self, line, text, a_wish=SWAP):
        with self.assertRaises(BadText) as caught:
            read_program(a_wish, text)
        self.assertEqual(caught.exception.line, line, text)

    def test_by_hand(self):
        self.assertEqual(read_program(SWAP, PROGRAM_TEXT), PROGRAM)
        self.assertEqual(read_program(SWAP, ""), ())
        self.assertEqual(read_program(MIXED, "write 3 0 0 0 -1/2\n"), (writing(3, 0, 0, 0, "-1/2"),))

    def test_read_back(self):
        chance = random.Random(111)
        for _ in range(60):
            many = chance.randrange(1, 7)
            a_wish = wish([None] * many, (), chance.randrange(3))
            program = tuple(
                writing(chance.randrange(many), *[Fraction(chance.randrange(-10 ** 9 + 1, 10 ** 9), chance.randrange(1, 10 ** 9))
                                                  for _ in range(many + a_wish.spare)])
                for _ in range(chance.randrange(61)))
            self.assertEqual(read_program(a_wish, program_text(program)), program)

    def test_no_string(self):
        for thing in [*odd_things(), PROGRAM_TEXT.encode(), [PROGRAM_TEXT], PROGRAM, ()]:
            if not isinstance(thing, str):
                self.check(0, thing)

    def test_lines_that_are_none(self):
        bad_ones = ["", " ", "write", "write ", "write 0 1 ", " write 0 1 2", "write  0 1 2", "write 0  1 2", "Write 0 1 2", "free",
                    "writes 0 1 2", "row 0 1 2", "0 1 2", "write x 1 2", "write 0 1 2 x", "write 0,1 2", "write 0 1 2\r"]
        bad_ones += [f"write {bad} 1 2" for bad in NO_WHOLES]
        bad_ones += [f"write 0 1 {bad}" for bad in NO_NUMBERS] + [f"write 0 {bad} 1" for bad in NO_NUMBERS]
        for bad in bad_ones:
            for at in range(3):
                lines = ["write 0 1 2"] * at + [bad] + ["write 0 1 2"] * (2 - at)
                self.check(at + 1, "\n".join(lines) + "\n")
            self.check(2, "\n".join(["write 9 1", bad, "", "x"]))

    def test_something_behind_the_last_line_feed(self):
        self.check(2, PROGRAM_TEXT[:-1])
        self.check(1, "write 0 1 2")
        self.check(1, "x")
        self.check(3, PROGRAM_TEXT + " ")
        self.check(3, PROGRAM_TEXT + "\n")
        self.check(1, "\n")

    def test_no_program_behind_a_right_form(self):
        for text in ["write 2 1 2\n", "write 0 1\n", "write 0\n", "write 0 1 2 3\n", "write 999999999 1 2\n", "write 0 1 2\n" * 61,
                     PROGRAM_TEXT + "write 0\n"]:
            with self.assertRaises(NoProgram):
                read_program(SWAP, text)
        self.assertEqual(len(read_program(SWAP, "write 0 1 2\n" * 60)), 60)
        self.check(62, "write 0 1 2\n" * 61 + "x\n")
        self.check(62, "write 0 1 2\n" * 61 + "x")


if __name__ == "__main__":
    unittest.main()
