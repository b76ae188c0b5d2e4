"""Point 9.2: translated, source, the eleventh fact."""

import random
import unittest
from fractions import Fraction
from math import gcd

from oncetwice.codes import Code, plain
from oncetwice.compiling import cost
from oncetwice.errors import BadCode, BadText
from oncetwice.sources import source, translated
from tests.coding import CALLS, CODES, EXAMPLE, ROUNDS, at_once, drawn_code, less, same, say
from tests.helping import number, odd_things, row
from tests.test_texts import NO_NUMBERS

EXAMPLE_TEXT = "cells a b\nouts a\na b = b a+b\nsay a-1/2b\nb = 0\n"
ROUNDS_TEXT = "cells a b\nouts b\na:\nif a = 0 b\nsay a\na b = a-1 a+2b\ngo a\nb:\nsay b\n"
CALLS_TEXT = ("cells a b c\nouts b c\ncall a\ngo c\na:\nif a = 0 b\na b = a-1 b+2\ncall a\nb:\nc = c+1\nback\nc:\n")
RESERVED = ["cells", "outs", "say", "if", "go", "call", "back"]
NO_NAMES = ["", "A", "aB", "abcdefghi", "a1", "1", "a-b", "a_b", "a.", "a:", ":", "=", "<", "-", "|", "~", "a'", "\t", "a\r", *RESERVED]
NO_TERMS = ["", "c", "x", "ab", "A", "B", "2c", "2A", "a2", "a1/2", "2ab", "a b", "2*a", "a*2", "2 a", "(a)", "a.", "a:", "1/2/3a",
            "01", "00", "01a", "2/4", "2/4a", "1/1", "1/1a", "0/1", "1/0", "1/0a", "/2", "1/", "1/a", "/2a", "1.5", "1e3", "1234567890",
            "1234567890a", "1/1234567890", "aa", "bb", "=", "<", "2-", "say", "if", "back", "go", "outs", "cells", "call", "1_0"]
NO_EXPRESSIONS = [*NO_TERMS, "+a", "+", "-", "--a", "a--b", "a+-b", "a-+b", "a++b", "a+", "a-", "-a-", "-a+", "+1", "a+2/4", "a-c",
                  "a+b+", "-x", "a+01", "a-1/1b", "a<b", "a=b", "a+b:", "2a3b", "ab+1", "a\tb", "-+a", "a+b-"]


def text_of(*lines):
    return "".join(line + "\n" for line in ("cells a b", "outs a", *lines))


class TranslatedTest(unittest.TestCase):

    def check(self, line, text):
        with self.assertRaises(BadText) as caught:
            translated(text)
        self.assertEqual(caught.exception.line, line, text)

    def check_line(self, bad):
        """It is told at each place behind the first two lines, whatever stands behind it."""
        for at in range(3):
            lines = ["say a", "back", "say b"]
            lines[at] = bad
            self.check(at + 3, text_of(*lines))
            self.check(at + 3, text_of(*lines[:at + 1], "", "x") + "x")

    def check_row(self, line, expected):
        self.assertEqual(translated(text_of(line)), Code(2, (0,), (expected,)), line)

    def test_the_example(self):
        code = translated(EXAMPLE_TEXT)
        self.assertEqual(code, EXAMPLE)
        self.assertEqual(code.rows[1], ("say", ((1, 1), (-1, 2), (0, 1))))
        self.assertEqual(cost(code, 0), 2)
        self.assertEqual(plain(code, ((1, 1), (2, 1)), 9), (((1, 2),), "end", ((2, 1),)))
        self.assertIs(type(code), Code)

    def test_by_hand(self):
        self.assertEqual(translated(ROUNDS_TEXT), ROUNDS)
        self.assertEqual(translated(CALLS_TEXT), CALLS)

    def test_no_rows(self):
        self.assertEqual(translated("cells a\nouts\n"), Code(1, (), ()))
        self.assertEqual(translated("cells a\nouts\nx:\n"), Code(1, (), ()))

    def test_names_of_cells(self):
        for name in ["a", "z", "ab", "abcdefgh", "zzzzzzzz", "say" + "s", "i", "fi", "iff", "backs", "ou", "cell", "out", "or"]:
            self.assertEqual(translated(f"cells {name}\nouts {name}\nsay 2{name}-1\n"), Code(1, (0,), (say(2, -1),)))
        self.assertEqual(translated("cells e d c b a\nouts\nsay e+2d+3c+4b+5a\n"), Code(5, (), (say(1, 2, 3, 4, 5, 0),)))
        self.assertEqual(translated("cells aa a\nouts a\na = aa\n"), Code(2, (1,), (at_once({1: (1, 0, 0)}),)))

    def test_the_first_line(self):
        for bad in NO_NAMES:
            for names in [bad, f"x {bad}", f"{bad} x", f"p q r s {bad}"]:
                self.check(1, f"cells {names}\nouts\n")
        for bad in ["cells", "cells ", "cells a a", "cells a b a", "cells a b c d e f", "cells  a", "cells a ", " cells a", "cell a",
                    "Cells a", "cellss a", "a b", "outs a", "", "say 1", "a:", "cells: a", "cells a,b", "back", "cells\ta"]:
            self.check(1, bad + "\nouts\nsay 1\n")
            self.check(1, bad + "\nx\nx\nx")

    def test_the_second_line(self):
        for outs, lot in [("outs", ()), ("outs b", (1,)), ("outs c a", (0, 2)), ("outs c b a", (0, 1, 2)), ("outs a b c", (0, 1, 2))]:
            self.assertEqual(translated(f"cells a b c\n{outs}\n").outs, lot)
        for bad in ["outs ", "outs d", "outs a a", "outs a b a", "outs a  b", "outs a ", " outs", "out a", "Outs a", "outss", "", "a:",
                    "cells a", "say a", "outs: a", "outs a,b", "outs 1", "outs A", "outs say", "outs a b c d", "back", "outs outs", "a = 1"]:
            self.check(2, f"cells a b c\n{bad}\nsay 1\n")
            self.check(2, f"cells a b c\n{bad}\nx\nx")

    def test_expressions(self):
        for text, values in [
                ("0", (0, 0, 0)), ("7", (0, 0, 7)), ("-7", (0, 0, -7)), ("-0", (0, 0, 0)), ("1/2", (0, 0, "1/2")),
                ("-1/2", (0, 0, "-1/2")), ("a", (1, 0, 0)), ("-a", (-1, 0, 0)), ("b", (0, 1, 0)), ("2a", (2, 0, 0)), ("0a", (0, 0, 0)),
                ("1a", (1, 0, 0)), ("-0b", (0, 0, 0)), ("3/4b", (0, "3/4", 0)), ("-3/4b", (0, "-3/4", 0)), ("a+b", (1, 1, 0)),
                ("a-b", (1, -1, 0)), ("b-a", (-1, 1, 0)), ("-a-b-1", (-1, -1, -1)), ("1+a", (1, 0, 1)), ("-1/2+2/3b-a+4", (-1, "2/3", "7/2")),
                ("a+a", (2, 0, 0)), ("a-a", (0, 0, 0)), ("1/2a+1/3a", ("5/6", 0, 0)), ("1/2a-1/2a+b", (0, 1, 0)), ("1/6+1/3", (0, 0, "1/2")),
                ("a+b+a+b+a-3b", (3, -1, 0)), ("1-1", (0, 0, 0)), ("999999999a-1/999999999b", (999999999, "-1/999999999", 0)),
                ("999999999+999999999", (0, 0, 1999999998)), ("-a+b", (-1, 1, 0)), ("1/3+1/3+1/3", (0, 0, 1)), ("0-1/2", (0, 0, "-1/2"))]:
            self.check_row(f"say {text}", say(*values))
            self.check_row(f"b = {text}", at_once({1: values}))
            self.check_row(f"if {text} < 0 x\nx:", less(values, (0, 0, 0), 1))
            self.check_row(f"if 0 = {text} x\nx:", same((0, 0, 0), values, 1))

    def test_drawn_expressions(self):
        chance = random.Random(121)
        for _ in range(300):
            sums, text = [Fraction(0)] * 3, ""
            for at in range(chance.randrange(1, 9)):
                sign = chance.choice(["+", "-"])
                place = chance.randrange(3)
                value = Fraction(chance.choice([0, 1, 2, 7, 999999999]), chance.choice([1, 2, 9, 999999999]))
                if place < 2 and chance.random() < 0.3:
                    value, told = Fraction(1), "ab"[place]
                else:
                    told = str(value) + ("a", "b", "")[place]
                text += told if at == 0 and sign == "+" else sign + told
                sums[place] += value if sign == "+" else -value
            self.check_row(f"say {text}", say(*sums))

    def test_set_rows(self):
        self.check_row("a = b", at_once({0: (0, 1, 0)}))
        self.check_row("a b = b a", at_once({0: (0, 1, 0), 1: (1, 0, 0)}))
        self.check_row("b a = b a", at_once({0: (1, 0, 0), 1: (0, 1, 0)}))
        self.assertEqual(translated("cells p q r\nouts\nr p q = 1 2 3\n").rows, (at_once({0: (0, 0, 0, 2), 1: (0, 0, 0, 3), 2: (0, 0, 0, 1)}),))
        for bad in ["a =", "a = ", "= a", " = a", "=", "a b = a", "a = a b", "a a = a b", "a b = a b a", "c = a", "a c = a b", "a = c",
                    "a  = b", "a =  b", "a=b", "a= b", "a =b", "a = b ", " a = b", "a == b", "a = = b", "a = b = a", "a := b", "a < b",
                    "A = b", "a + b", "a b", "a", "a = b + a", "1 = a", "2a = b", "-a = b", "a: = b", "a,b = b,a", "say = a", "go = 1"]:
            self.check_line(bad)

    def test_say_rows(self):
        self.check_row("say a", say(1, 0, 0))
        for bad in ["say", "say ", "say a b", "say  a", "say a ", " say a", "Say a", "says a", "say = a", "say:", "say a:", "saya"]:
            self.check_line(bad)

    def test_less_and_same_rows(self):
        self.check_row("if a+1 < 2b x\nx:", less((1, 0, 1), (0, 2, 0), 1))
        self.check_row("x:\nif a+1 = 2b x", same((1, 0, 1), (0, 2, 0), 0))
        for bad in ["if", "if a", "if a <", "if a < b", "if a = b", "if a < b ", "if a < b x x", "if a > b x", "if a <= b x", "if a == b x",
                    "if < a b x", "if a b x", "if a<b x", "if a=b x", "if  a < b x", "if a < b  x", "if a < b x ", " if a < b x", "If a < b x",
                    "if a < c x", "if c < a x", "if a = c x", "if a < b y", "if a = b y", "if a < b x:", "if a < b 1", "if a < b if",
                    "if a < b go x", "iff a < b x", "if a != b x", "if: a < b x", "if a x < b", "if a < b -x"]:
            self.check(5, text_of("x:", "say 1", bad))
            self.check(3, text_of(bad, "x:", "say 1"))

    def test_go_call_and_back_rows(self):
        for word in ("go", "call"):
            self.check_row(f"{word} x\nx:", (word, 1))
            self.check_row(f"x:\n{word} x", (word, 0))
            for bad in [word, f"{word} ", f"{word} y", f"{word} x x", f"{word}  x", f"{word} x ", f" {word} x", f"{word} x:", f"{word} 0",
                        f"{word} -x", f"{word} X", f"{word.upper()} x", f"{word}s x", f"{word}: x", f"{word} {word}", f"{word} a"]:
                self.check(5, text_of("x:", "say 1", bad))
                self.check(3, text_of(bad, "x:", "say 1"))
        self.check_row("back", ("back",))
        for bad in ["back ", " back", "back x", "back back", "Back", "backs", "back:", "bac", "back 0"]:
            self.check_line(bad)

    def test_other_lines_that_have_no_form(self):
        for bad in ["", " ", "x", "#", "end", "cells a b", "outs a", "outs", "cells", "wish", "row 0 1", ":", "::", "x: say a", "say a x:",
                    "|", "x :", " x:", "x: ", "x::", "X:", "abcdefghi:", "x1:", "1:", "if:", "go:", "call:", "say:", "outs:", "cells:", "-x:"]:
            self.check_line(bad)

    def test_expressions_that_are_none(self):
        for bad in NO_EXPRESSIONS:
            self.check_line(f"say {bad}")
            self.check_line(f"a = {bad}")
            self.check_line(f"a b = 1 {bad}")
            self.check(3, text_of(f"if {bad} < 1 x", "x:"))
            self.check(3, text_of(f"if 1 = {bad} x", "x:"))
        for bad in NO_NUMBERS:
            if bad not in ("", "-0", "x", "1x") and "-" not in bad[1:] and not bad.startswith("-"):
                self.check_line(f"say {bad}")
                self.check_line(f"say a-{bad}")
                self.check_line(f"say {bad}b")

    def test_labels(self):
        # Ahead of their use and behind it, two at one row, one at the END, one to which nothing goes.
        text = text_of("x:", "y:", "say 1", "go y", "free:", "go abcdefgh", "call z", "call x", "z:", "back", "abcdefgh:", "w:")
        self.assertEqual(translated(text).rows, (say(0, 0, 1), ("go", 0), ("go", 6), ("call", 5), ("call", 0), ("back",)))
        # They may have the names of cells.
        self.assertEqual(translated(text_of("b:", "say b", "go a", "say a", "a:", "go b")).rows,
                         (say(0, 1, 0), ("go", 3), say(1, 0, 0), ("go", 0)))
        self.assertEqual(translated(text_of("go end", "end:")).rows, (("go", 1),))

    def test_two_labels_of_one_name(self):
        self.check(4, text_of("x:", "x:"))
        self.check(5, text_of("x:", "say 1", "x:"))
        self.check(6, text_of("go x", "x:", "say 1", "x:", "y", "x:"))
        self.check(4, text_of("x:", "x:", "say c"))
        self.check(3, text_of("say c", "x:", "x:"))

    def test_labels_that_stand_nowhere(self):
        self.check(3, text_of("go x"))
        self.check(4, text_of("say 1", "call x", "y:", "x"))
        self.check(3, text_of("go x", "x :"))
        # What stands behind the last line feed is no line.
        self.check(3, text_of("go x") + "x:")
        self.check(4, text_of("x:") + "x:")
        # A line with the form of a label that can't stand there is one, but it comes first.
        self.check(1, "x:\nouts\ngo x\n")
        self.check(2, "cells a\nx:\ngo x\n")
        # A label stands even if it stands twice: only the other one is told.
        self.check(5, text_of("go x", "x:", "x:"))

    def test_something_behind_the_last_line_feed(self):
        for rest in ["x", " ", "say a", "back", "x:"]:
            self.check(3, text_of() + rest)
            self.check(5, text_of("say a", "back") + rest)
            self.check(3, text_of("say c", "back") + rest)
        self.check(5, EXAMPLE_TEXT[:-1])

    def test_one_of_the_first_two_lines_lacks(self):
        self.check(1, "")
        self.check(2, "cells a\n")
        self.check(1, "cells a")
        self.check(2, "cells a\nouts")
        self.check(1, "outs\n")
        self.check(1, "\n")

    def test_no_string(self):
        for thing in [*odd_things(), EXAMPLE_TEXT.encode(), [EXAMPLE_TEXT], EXAMPLE, 0, (EXAMPLE_TEXT,), EXAMPLE_TEXT.split("\n")]:
            if not isinstance(thing, str):
                self.check(0, thing)

    def test_more_than_forty_rows(self):
        self.assertEqual(len(translated(text_of(*["x:"], *["go x"] * 40, "y:")).rows), 40)
        for many in (41, 42, 1000):
            with self.assertRaises(BadCode) as caught:
                translated(text_of(*["back"] * many))
            self.assertEqual(caught.exception.part, ("rows",))
        self.check(44, text_of(*["back"] * 41, "x"))
        self.check(44, text_of(*["back"] * 41) + "x")

    def test_long_texts(self):
        self.check(3, text_of("say " + "9" * 19000))
        self.check(3, text_of("x" * 19000))
        self.assertEqual(translated(text_of("say " + "+".join(["a"] * 9000))).rows, (say(9000, 0, 0),))
        self.check(3, text_of("say " + "-" * 19000))
        self.check(1, "\n" * 20000)


class SourceTest(unittest.TestCase):

    def check_row(self, a_row, line, cells=2):
        names = "abcde"[:cells]
        text = f"cells {' '.join(names)}\nouts\n{line}\n"
        self.assertEqual(source(Code(cells, (), (a_row,))), text)

    def test_the_example(self):
        self.assertEqual(source(translated(EXAMPLE_TEXT)), EXAMPLE_TEXT)
        self.assertEqual(source(EXAMPLE), EXAMPLE_TEXT)

    def test_by_hand(self):
        self.assertEqual(source(ROUNDS), ROUNDS_TEXT)
        self.assertEqual(source(CALLS), CALLS_TEXT)

    def test_cells_and_outs(self):
        self.assertEqual(source(Code(1, (), ())), "cells a\nouts\n")
        self.assertEqual(source(Code(5, (0, 1, 2, 3, 4), ())), "cells a b c d e\nouts a b c d e\n")
        self.assertEqual(source(Code(5, (1, 4), ())), "cells a b c d e\nouts b e\n")

    def test_expressions(self):
        for values, text in [
                ((0, 0, 0), "0"), ((0, 0, 7), "7"), ((0, 0, -7), "-7"), ((0, 0, "1/2"), "1/2"), ((0, 0, "-1/2"), "-1/2"), ((1, 0, 0), "a"),
                ((-1, 0, 0), "-a"), ((0, 1, 0), "b"), ((0, -1, 0), "-b"), ((2, 0, 0), "2a"), ((-2, 0, 0), "-2a"), ((0, "3/4", 0), "3/4b"),
                ((1, 1, 0), "a+b"), ((1, -1, 0), "a-b"), ((-1, 1, 0), "-a+b"), ((-1, -1, -1), "-a-b-1"), ((1, 0, 1), "a+1"),
                (("1/2", "-2/3", "4/5"), "1/2a-2/3b+4/5"), ((0, -2, "-1/3"), "-2b-1/3"), ((0, 1, 1), "b+1"), ((-1, 0, 2), "-a+2"),
                ((1, 1, 1), "a+b+1"), ((10, "1/10", 0), "10a+1/10b"), ((0, -1, 0), "-b"), ((0, 0, 1), "1"), ((0, 0, -1), "-1")]:
            self.check_row(say(*values), f"say {text}")
            self.check_row(at_once({1: values}), f"b = {text}")
        self.check_row(say(0, 1, 0, -1, "1/2", 0), "say b-d+1/2e", 5)

    def test_set_rows(self):
        self.check_row(at_once({0: (0, 1, 0), 1: (1, 0, 0)}), "a b = b a")
        self.check_row(at_once({2: (1, 0, 0, 0), 0: (0, 0, 0, 0)}), "a c = 0 a", 3)
        self.check_row(at_once({cell: [0] * 5 + [cell] for cell in range(5)}), "a b c d e = 0 1 2 3 4", 5)

    def test_rows_that_go(self):
        self.check_row(less((1, 0, 0), (0, 0, "1/2"), 1), "if a < 1/2 a\na:")
        self.check_row(same((1, -1, 0), (0, 0, 0), 1), "if a-b = 0 a\na:")
        self.check_row(("go", 1), "go a\na:")
        self.check_row(("call", 1), "call a\na:")
        self.check_row(("back",), "back")
        self.assertEqual(source(Code(1, (), (("go", 0),))), "cells a\nouts\na:\ngo a\n")
        self.assertEqual(source(Code(1, (), (("call", 0),))), "cells a\nouts\na:\ncall a\n")

    def test_labels_are_named_in_the_order_of_their_rows(self):
        code = Code(1, (), (("go", 3), ("call", 1), less((1, 0), (0, 0), 4), same((1, 0), (0, 0), 3), ("go", 1)))
        self.assertEqual(source(code), "cells a\nouts\ngo b\na:\ncall a\nif a < 0 c\nb:\nif a = 0 b\nc:\ngo a\n")

    def test_labels_beyond_z(self):
        code = Code(1, (), tuple(("go", at + 1) for at in range(40)))
        lines = source(code).split("\n")[2:-1]
        names = [*"abcdefghijklmnopqrstuvwxyz", *["a" + letter for letter in "abcdefghijklmn"]]
        expected = ["go a"]
        for at in range(39):
            expected += [names[at] + ":", "go " + names[at + 1]]
        self.assertEqual(lines, expected + ["an:"])
        self.assertEqual(translated(source(code)), code)

    def test_a_label_ahead_of_each_row(self):
        code = Code(1, (), (*[less((1, 0), (0, 0), at) for at in range(39)], ("go", 40)))
        told = source(code)
        self.assertTrue(told.startswith("cells a\nouts\na:\nif a < 0 a\nb:\nif a < 0 b\n"))
        self.assertIn("\nz:\nif a < 0 z\naa:\nif a < 0 aa\nab:\n", told)
        self.assertTrue(told.endswith("\nam:\nif a < 0 am\ngo an\nan:\n"))
        self.assertEqual(translated(told), code)

    def test_translated_of_source_is_the_code(self):
        chance = random.Random(122)
        for code in [*CODES, *[drawn_code(chance) for _ in range(400)]]:
            text = source(code)
            self.assertEqual(translated(text), code)
            self.assertEqual(source(translated(text)), text)

    def test_nine_figures(self):
        big = row(999999999, Fraction(-999999999, 999999998), Fraction(1, 999999999))
        code = Code(2, (1,), (("say", big), ("set", ((0, big),))))
        self.assertEqual(translated(source(code)), code)

    def test_long_numbers(self):
        code = Code(1, (), (say(10 ** 29, Fraction(-1, 10 ** 29)),))
        self.assertEqual(source(code), "cells a\nouts\nsay 1" + "0" * 29 + "a-1/1" + "0" * 29 + "\n")

    def test_what_was_returned_may_be_passed_on_whatever_its_size(self):
        bottoms, shared = [], 1
        below = 999999999
        while len(bottoms) < 700:
            if gcd(below, shared) == 1:
                bottoms.append(below)
                shared *= below
            below -= 1
        code = translated(text_of("say " + "+".join(f"1/{bottom}" for bottom in bottoms) + "+a"))
        total = sum(shared // bottom for bottom in bottoms)
        told = source(code)
        self.assertEqual(code.rows[0][1], ((1, 1), (0, 1), (total // gcd(total, shared), shared // gcd(total, shared))))
        self.assertGreater(len(told), 10000)
        high, low = told.split("say a+")[1][:-1].split("/")
        self.assertEqual((whole(high), whole(low)), code.rows[0][1][2])

    def test_another_order_of_names_and_labels_comes_to_the_same_code(self):
        text = "cells zeta x\nouts x zeta\nx zeta = zeta+x x\nlast:\nif x < 1zeta+0 done\ngo last\ndone:\nend:\n"
        self.assertEqual(source(translated(text)),
                         "cells a b\nouts a b\na b = b a+b\na:\nif b < a b\ngo a\nb:\n")
        self.assertEqual(translated(source(translated(text))), translated(text))


def whole(figures):
    """The integer of any number of figures, of which Python itself reads no more than some thousands."""
    value = 0
    for at in range(0, len(figures), 1000):
        piece = figures[at:at + 1000]
        value = value * 10 ** len(piece) + int(piece)
    return value


if __name__ == "__main__":
    unittest.main()
