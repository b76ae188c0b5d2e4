"""Points 10.1 and 10.2: Desk."""

import random
import unittest

from oncetwice.codes import plain
from oncetwice.compiling import compiled, cost
from oncetwice.desks import Desk
from oncetwice.errors import BadCode, BadText, BadWish, CellError, NoCell, NoContents, NoLine, NoName, NoNumber, NoOrder
from oncetwice.errors import NoRunner, NothingDone
from oncetwice.fewest import fewest, shortest
from oncetwice.orders import fault
from oncetwice.runners import Runner
from oncetwice.sources import source, translated
from oncetwice.texts import wish_text
from tests.coding import CALLS, CODES, EXAMPLE, ROUNDS, TURNS, WIDE
from tests.helping import FAR, SWAP, TURN, deep, odd_things, row, some_wishes, wish
from tests.test_sources import NO_NAMES
from tests.test_texts import NO_NUMBERS, NO_WHOLES

SWAP_LINE = "wish swap cells 2|spare 0|locked|row 0 1|row 1 0|"
EXAMPLE_LINE = "code eg cells a b|outs a|a b = b a+b|say a-1/2b|b = 0|"
STATE_LINES = ["at", "holds", "said", *[f"{word} {cell}" for word in ("was", "will") for cell in range(6)]]
# Lines of each form, which are right where a wish p, a code q and a Runner are there.
RIGHT = ["wish p x", "code q x", "start q 0 1", "undo", "fewest p", "order p", "fault p none", "fault p 0,1", "plain q 9 1 2/3",
         "source q", "cost q 0", "step 1", "at", "holds", "said", "was 0", "will 0"]


def wish_line(name, a_wish):
    return f"wish {name} " + wish_text(a_wish).replace("\n", "|")


def code_line(name, code):
    return f"code {name} " + source(code).replace("\n", "|")


def told_by(desk, line):
    """What a line returns, or the error with its fields."""
    try:
        return desk.tell(line)
    except CellError as error:
        return (type(error).__name__, vars(error))


def shown(desk):
    """All that a desk tells."""
    lines = list(STATE_LINES)
    for name in ["swap", "far", "p", "q", "r", "eg"]:
        lines += [f"fewest {name}", f"order {name}", f"fault {name} 0,1,0", f"fault {name} none", f"source {name}", f"cost {name} 1",
                  f"plain {name} 20 1 2", f"plain {name} 20 1 2 3", f"plain {name} 20 3 1 2 3"]
    return [told_by(desk, line) for line in lines] + [desk.undoable()]


class ByHandTest(unittest.TestCase):

    def check(self, desk, *pairs):
        for line, told in pairs:
            self.assertEqual(desk.tell(line), told, line)

    def test_wishes(self):
        self.check(
            Desk(), (SWAP_LINE, "ok"), ("fewest swap", "3"), ("order swap", "0,1,0"), ("fault swap 0,1", "moment 1 1"),
            ("fault swap none", "never 0"), ("fault swap 0,1,0", "good"), ("fault swap 1,0,1", "good"), ("fault swap 0", "never 1"),
            ("wish far cells 2|spare 0|locked|row 0 1|row 1 1|", "ok"), ("fewest far", "2"), ("order far", "1,0"),
            ("fault far 0,1", "moment 1 1"), ("fault far 1,0", "good"),
            ("wish keep cells 1|spare 2|locked 0|row 1|", "ok"), ("fewest keep", "0"), ("order keep", "none"), ("fault keep none", "good"),
            ("fault keep 1,2,1", "good"), ("fault keep 2,1,0", "locked 2"), ("fault keep 0", "locked 0"),
            ("wish never cells 2|spare 1|locked 1|row 0 1|row 1 0|", "ok"), ("fewest never", "never"), ("order never", "never"),
            ("fault never 0,1", "locked 1"), ("fault never 0", "never 1"))

    def test_a_fault_of_several_cells(self):
        # Behind the third writing what cells 0 and 1 held is wanted still, but cell 1 alone is amid.
        four = wish([(0, 0, 1, 0), (0, 0, 0, 1), (1, 0, 0, 0), (0, 1, 0, 0)])
        self.check(Desk(), (wish_line("four", four), "ok"), ("fault four 0,1,0,1,2,3", "moment 3 2,3"), ("fewest four", "6"))

    def test_codes(self):
        self.check(
            Desk(), (EXAMPLE_LINE, "ok"), ("plain eg 9 1 2", "end 1/2"), ("plain eg 1 1 2", "on"), ("plain eg 0 1 2", "on"),
            ("plain eg 10000 1/2 -2/3", "end -7/12"),
            ("source eg", "cells a b|outs a|a b = b a+b|say a-1/2b|b = 0|"), ("cost eg 0", "2"), ("cost eg 2", "2"),
            (code_line("rounds", ROUNDS), "ok"), ("plain rounds 99 3 0", "end 3 2 1 17"), ("plain rounds 7 3 0", "on 3 2"),
            (code_line("calls", CALLS), "ok"), ("plain calls 999 20 0 0", "fault"),
            ("code odd cells x y|outs y x|lab:|y x = 1x+0-y x|go lab|", "ok"), ("source odd", "cells a b|outs a b|a:|a b = a a-b|go a|"))

    def test_a_runner(self):
        self.check(
            Desk(), (EXAMPLE_LINE, "ok"), ("start eg 0 1 2", "ok"), ("at", "0 0 runs"), ("holds", "1 2 1"), ("said", "none"),
            ("was 0", "1"), ("will 0", "2"), ("will 1", "3"), ("will 2", "1"),
            ("step 1", "1"), ("at", "0 1 runs"), ("holds", "1 3 1"), ("was 1", "2"), ("will 0", "2"),
            ("step 1", "1"), ("at", "1 0 runs"), ("holds", "2 3 1"), ("was 0", "2"), ("will 0", "open"), ("will 2", "open"),
            ("step 0", "0"), ("step 10000", "2"), ("at", "3 0 end"), ("said", "1/2"), ("step 5", "0"), ("will 1", "open"), ("was 1", "3"))

    def test_a_runner_with_spare_cells_and_broken_numbers(self):
        desk = Desk()
        desk.tell(code_line("rounds", ROUNDS))
        self.check(desk, ("start rounds 2 3 -1/2", "ok"), ("holds", "3 -1/2 1 0 0"), ("step 9999", "17"), ("said", "3 2 1 13"),
                   ("at", "5 0 end"), ("start rounds 0 -1 0", "ok"), ("step 9", "9"), ("said", "-1 -2"), ("at", "3 0 runs"),
                   ("holds", "-3 -4 1"))

    def test_a_fault(self):
        self.check(Desk(), ("code f cells a|outs|say a|back|", "ok"), ("start f 0 -4", "ok"), ("step 9", "1"), ("at", "1 0 fault"),
                   ("said", "-4"), ("step 9", "0"), ("was 0", "-4"), ("will 0", "open"))

    def test_what_is_not_sure(self):
        # b gets what a holds, and nobody reads a or the old b: once b is written it is gone.
        self.check(Desk(), ("code g cells a b c|outs b c|b c = a b|", "ok"), ("start g 0 5 6 7", "ok"), ("step 1", "1"), ("at", "0 1 runs"),
                   ("was 2", "open"), ("was 1", "6"), ("will 0", "open"), ("will 1", "5"), ("will 2", "6"), ("will 3", "1"), ("was 3", "1"))

    def test_names_kept_anew(self):
        desk = Desk()
        self.check(desk, (SWAP_LINE, "ok"), (wish_line("swap", FAR), "ok"), ("fewest swap", "2"), ("undo", "ok"), ("fewest swap", "3"),
                   ("undo", "ok"))
        with self.assertRaises(NoName):
            desk.tell("fewest swap")

    def test_a_wish_and_a_code_of_one_name(self):
        desk = Desk()
        desk.tell(SWAP_LINE.replace("swap", "x"))
        with self.assertRaises(NoName):
            desk.tell("source x")
        desk.tell(EXAMPLE_LINE.replace("eg", "x"))
        self.check(desk, ("fewest x", "3"), ("cost x 0", "2"), ("undo", "ok"), ("fewest x", "3"))
        with self.assertRaises(NoName):
            desk.tell("cost x 0")

    def test_names(self):
        for name in ["a", "abcdefgh", "wish", "code", "start", "undo", "none", "never", "ok", "says"]:
            desk = Desk()
            self.check(desk, (SWAP_LINE.replace("swap", name), "ok"), (f"fewest {name}", "3"))

    def test_the_runner_goes_on_when_its_code_is_kept_anew(self):
        self.check(Desk(), (EXAMPLE_LINE, "ok"), ("start eg 0 1 2", "ok"), ("step 1", "1"), ("code eg cells a|outs|", "ok"),
                   ("source eg", "cells a|outs|"), ("step 9", "3"), ("said", "1/2"), ("undo", "ok"), ("at", "0 1 runs"),
                   ("undo", "ok"), ("cost eg 0", "2"))


class UndoTest(unittest.TestCase):

    def test_by_hand(self):
        desk = Desk()
        self.assertEqual(desk.undoable(), 0)
        for many, line in enumerate([SWAP_LINE, EXAMPLE_LINE, "start eg 1 1 2", "step 3", "step 0", "start eg 0 5 6", "step 1"]):
            self.assertEqual(desk.undoable(), many)
            desk.tell(line)
        self.assertEqual((desk.undoable(), desk.tell("at"), desk.tell("holds")), (7, "0 1 runs", "5 11 1"))
        self.assertEqual((desk.tell("undo"), desk.tell("at"), desk.tell("holds")), ("ok", "0 0 runs", "5 6 1"))
        # The elder Runner is there again as it stood.
        self.assertEqual((desk.tell("undo"), desk.tell("at"), desk.tell("said")), ("ok", "2 0 runs", "1/2"))
        self.assertEqual((desk.tell("undo"), desk.tell("at"), desk.undoable()), ("ok", "2 0 runs", 4))
        # All steps of a line are taken back.
        self.assertEqual((desk.tell("undo"), desk.tell("at"), desk.tell("holds"), desk.tell("said")), ("ok", "0 0 runs", "1 2 1 0", "none"))
        self.assertEqual(desk.tell("undo"), "ok")
        with self.assertRaises(NoRunner):
            desk.tell("at")
        self.assertEqual((desk.tell("undo"), desk.undoable()), ("ok", 1))
        with self.assertRaises(NoName):
            desk.tell("source eg")
        self.assertEqual((desk.tell("undo"), desk.undoable()), ("ok", 0))
        for _ in range(2):
            with self.assertRaises(NothingDone):
                desk.tell("undo")
            self.assertEqual(desk.undoable(), 0)

    def test_lines_that_only_tell_are_not_undoable(self):
        desk = Desk()
        for line in [SWAP_LINE, EXAMPLE_LINE, "start eg 1 1 2"]:
            desk.tell(line)
        for line in ["fewest swap", "order swap", "fault swap 0,1", "plain eg 9 1 2", "source eg", "cost eg 0", *STATE_LINES[:6]]:
            desk.tell(line)
            self.assertEqual(desk.undoable(), 3)

    def test_a_step_line_without_steps_counts(self):
        desk = Desk()
        for line in [EXAMPLE_LINE, "start eg 1 1 2", "step 100", "step 100"]:
            desk.tell(line)
        self.assertEqual((desk.undoable(), desk.tell("undo"), desk.tell("at")), (4, "ok", "3 0 end"))
        self.assertEqual((desk.tell("undo"), desk.tell("at")), ("ok", "0 0 runs"))

    def test_a_long_step_line(self):
        desk = Desk()
        for line in ["code r cells a|outs|x:|a = a+1|say a|go x|", "start r 0 0", "step 10000", "step 10000"]:
            desk.tell(line)
        self.assertEqual(desk.tell("holds"), "6667 1")
        desk.tell("undo")
        self.assertEqual((desk.tell("holds"), desk.tell("at")), ("3334 1", "1 0 runs"))
        desk.tell("undo")
        self.assertEqual((desk.tell("holds"), desk.tell("said")), ("0 1", "none"))


def drawn_line(chance, steps):
    """A line that may change something, right or wrong."""
    name = chance.choice(["p", "q", "r"])
    way = chance.randrange(12)
    if way < 2:
        return wish_line(name, chance.choice([SWAP, FAR, TURN, wish([None]), wish([(0, 1), (1, 0)], (0,), 2)]))
    if way < 4:
        return code_line(name, chance.choice(CODES))
    if way < 6:
        numbers = " ".join(chance.choice(["0", "1", "-2", "1/2"]) for _ in range(chance.choice([2, 2, 3, 4, 5])))
        return f"start {name} {chance.randrange(4)} {numbers}"
    if way < 9:
        return f"step {chance.choice(steps)}"
    return "undo"


class DayTest(unittest.TestCase):

    def test_a_long_day_against_a_desk_that_never_went_wrong(self):
        chance = random.Random(131)
        for _ in range(4):
            desk, done = Desk(), []
            for _ in range(50):
                line = drawn_line(chance, [0, 1, 1, 2, 3, 7, 100, 10001])
                before = shown(desk)
                told = told_by(desk, line)
                if isinstance(told, tuple):
                    self.assertEqual(shown(desk), before)
                    if line == "undo":
                        self.assertEqual((done, told[0]), ([], "NothingDone"))
                elif line == "undo":
                    done.pop()
                else:
                    done.append(line)
                fresh = Desk()
                for again in done:
                    fresh.tell(again)
                self.assertEqual(shown(desk), shown(fresh))
                self.assertEqual(desk.undoable(), len(done))

    def test_wishes_against_the_functions(self):
        desk = Desk()
        for a_wish in some_wishes()[::7]:
            desk.tell(wish_line("w", a_wish))
            order = shortest(a_wish)
            self.assertEqual(desk.tell("fewest w"), "never" if order is None else str(fewest(a_wish)))
            self.assertEqual(desk.tell("order w"), "never" if order is None else ",".join(map(str, order)) or "none")
            for kept in [(), (0,), (0, 1), (1, 0), (0, 1, 0), (1, 1, 0)]:
                found = fault(a_wish, kept)
                told = "good" if found is None else f"{found[0]} {found[1]}"
                if found is not None and found[0] == "moment":
                    told += " " + ",".join(map(str, found[2]))
                self.assertEqual(desk.tell(f"fault w {','.join(map(str, kept)) or 'none'}"), told)

    def test_codes_against_the_functions(self):
        desk = Desk()
        chance = random.Random(132)
        for code in CODES:
            self.assertEqual(desk.tell(code_line("c", code)), "ok")
            begins = row(*[chance.randrange(-3, 4) for _ in range(code.cells)])
            words = " ".join(str(top) for top, _ in begins)
            self.assertEqual(desk.tell("source c"), source(code).replace("\n", "|"))
            for most in range(20):
                said, word, _ = plain(code, begins, most)
                self.assertEqual(desk.tell(f"plain c {most} {words}"), " ".join([word, *map(written, said)]))
            for spare in range(3):
                self.assertEqual(desk.tell(f"cost c {spare}"), str(cost(code, spare)))
                runner = Runner(code, spare, compiled(code, spare), begins)
                desk.tell(f"start c {spare} {words}")
                for many in [0, 1, 2, 1, 1, 3, 1, 9]:
                    self.assertEqual(desk.tell(f"step {many}"), str(runner.go(many)))
                    self.check_state(desk, runner, code.cells)

    def check_state(self, desk, runner, cells):
        self.assertEqual(desk.tell("at"), f"{runner.row()} {runner.moment()} {runner.word()}")
        self.assertEqual(desk.tell("holds"), " ".join(map(written, runner.contents())))
        self.assertEqual(desk.tell("said"), " ".join(map(written, runner.said())) or "none")
        for cell in range(cells + 1):
            for word, told in [("was", runner.was(cell)), ("will", runner.will(cell))]:
                self.assertEqual(desk.tell(f"{word} {cell}"), "open" if told is None else written(told))


def written(number):
    return str(number[0]) if number[1] == 1 else f"{number[0]}/{number[1]}"


class ErrorsTest(unittest.TestCase):

    def setUp(self):
        self.desk = Desk()
        for line in [SWAP_LINE.replace("swap", "p"), EXAMPLE_LINE.replace("eg", "q"), "start q 0 1 2", "step 1"]:
            self.desk.tell(line)
        self.before = shown(self.desk)

    def check(self, error, told, **fields):
        """The error that a line raises, and its fields; tearDown looks whether anything was changed."""
        with self.assertRaises(error) as caught:
            self.desk.tell(told)
        self.assertEqual((type(caught.exception), vars(caught.exception)), (error, fields), told)

    def tearDown(self):
        self.assertEqual(shown(self.desk), self.before)

    def check_no_line(self, line):
        self.check(NoLine, line)
        with self.assertRaises(NoLine):
            Desk().tell(line)

    def test_what_is_no_string(self):
        for thing in [*odd_things(), b"undo", ["undo"], ("undo",), 0, deep("undo", 36), ["fewest", "p"]]:
            if not isinstance(thing, str):
                self.check_no_line(thing)

    def test_a_line_feed(self):
        for line in RIGHT:
            for bad in [line + "\n", "\n" + line, line.replace(" ", "\n"), line.replace("x", "\n"), line + "\nx"]:
                if "\n" in bad:
                    self.check_no_line(bad)
        self.check_no_line(wish_text(SWAP))
        self.check_no_line("wish p " + wish_text(SWAP))

    def test_words_and_blanks(self):
        for line in RIGHT:
            words = line.split(" ")
            bad = [" " + line, line.upper(), line.replace(words[0], words[0] + "s"), words[0][:-1] + line[len(words[0]):], "x" + line,
                   line.replace(" ", "\t") if " " in line else line + "\t"]
            if words[0] not in ("wish", "code"):
                bad += [line + " ", line.replace(" ", "  ", 1) if " " in line else line + "  ", line + " x", line + " -"]
            else:
                bad += [line.replace(" ", "  ", 1)]
            if words[0] not in ("wish", "code", "start", "plain"):
                bad += [line + " 1"]
            if len(words) > 1:
                bad += [words[0], words[0] + " "]
            for many in range(1, len(words) - (words[0] == "plain")):
                bad += [" ".join(words[:many]), " ".join(words[:many]) + " "]
            for one in bad:
                self.check_no_line(one)
        for one in ["", " ", "undoable", "tell at", "redo", "none", "ok", "|", "wish", "wishp x", "row", "moment", "at at", "go 1", "back"]:
            self.check_no_line(one)

    def test_texts_have_one_sign_or_more(self):
        for word in ("wish", "code"):
            for bad in [word, word + " ", word + " p", word + " p "]:
                self.check_no_line(bad)
            self.check(BadText, word + " p  ", line=1)
            self.check(BadText, word + " p x", line=1)

    def test_names_that_are_none(self):
        for bad in NO_NAMES:
            if " " not in bad:
                for line in [f"wish {bad} x", f"code {bad} x", f"start {bad} 0 1 2", f"fewest {bad}", f"order {bad}", f"fault {bad} none",
                             f"plain {bad} 9 1 2", f"source {bad}", f"cost {bad} 0"]:
                    self.check_no_line(line)

    def test_numbers_that_are_none(self):
        for bad in NO_NUMBERS:
            if " " not in bad:
                for line in ["start q 0 {}", "start q 0 1 {}", "start q 0 {} 1", "plain q 9 {}", "plain q 9 1 {}", "plain q 9 {} 1"]:
                    self.check_no_line(line.format(bad))
        for bad in NO_WHOLES:
            for line in ["start q {} 1 2", "plain q {} 1 2", "cost q {}", "step {}", "was {}", "will {}", "fault p {}", "fault p 0,{}",
                         "fault p {},0"]:
                if bad != "1,0" or not line.startswith("fault"):
                    self.check_no_line(line.format(bad))

    def test_cells_of_an_order(self):
        for bad in ["0,", ",0", ",", "0,,1", "0, 1", "0 1", "none,0", "0,none", "None", "()", "(0,1)", "0;1", "0-1", "-1", "0,1,", "none "]:
            self.check_no_line("fault p " + bad)

    def test_no_name(self):
        for line in ["start {} 0 1 2", "start {} 9 1", "plain {} 9 1 2", "plain {} 999999999 1", "source {}", "cost {} 0", "cost {} 3"]:
            self.check(NoName, line.format("p"), name="p")
            self.check(NoName, line.format("abcdefgh"), name="abcdefgh")
        for line in ["fewest {}", "order {}", "fault {} none", "fault {} 7,8"]:
            self.check(NoName, line.format("q"), name="q")
            self.check(NoName, line.format("abcdefgh"), name="abcdefgh")

    def test_no_line_comes_ahead_of_no_name(self):
        for line in ["start x 0 1 02", "plain x 09 1 2", "source x x", "cost x -1", "fewest x ", "fault x 0,", "order  x"]:
            self.check_no_line(line)

    def test_no_runner(self):
        for line in ["step 1", "step 10001", "step 999999999", "at", "holds", "said", "was 0", "was 9", "will 0", "will 9"]:
            for lines in [[], [EXAMPLE_LINE], [EXAMPLE_LINE, "start eg 0 1 2", "undo"]]:
                desk = Desk()
                for one in lines:
                    desk.tell(one)
                with self.assertRaises(NoRunner):
                    desk.tell(line)
                self.assertEqual(desk.undoable(), min(1, len(lines)))
        for line in ["step x", "step -1", "at 0", "was", "will a", "said x"]:
            self.check_no_line(line)

    def test_what_the_functions_raise(self):
        self.check(BadText, "wish p cells 2|spare 0|locked|row 0 1|", line=5)
        self.check(BadText, "wish p cells 2|spare 0|locked|row 0 1|row 1 0", line=5)
        self.check(BadText, "wish r |", line=1)
        self.check(BadWish, "wish p cells 2|spare 3|locked|row 0 1|row 1 0|", part=("spare",))
        self.check(BadWish, "wish new cells 0|spare 3|locked|", part=("rows",))
        self.check(BadText, "code q cells a|outs b|", line=2)
        self.check(BadText, "code q cells a|outs|go x|", line=3)
        self.check(BadText, "code new x", line=1)
        self.check(BadCode, "code q cells a|outs|" + "back|" * 41, part=("rows",))
        self.check(NoNumber, "start q 3 1 2")
        self.check(NoNumber, "start q 3 1")
        self.check(NoContents, "start q 0 1")
        self.check(NoContents, "start q 2 1 2 3")
        self.check(NoOrder, "fault p 2")
        self.check(NoOrder, "fault p " + ",".join(["0"] * 61))
        self.check(NoOrder, "fault p 999999999")
        self.check(NoContents, "plain q 10001 1")
        self.check(NoNumber, "plain q 10001 1 2")
        self.check(NoNumber, "cost q 3")
        self.check(NoNumber, "step 10001")
        self.check(NoCell, "was 3")
        self.check(NoCell, "will 999999999")
        self.assertEqual(self.desk.tell("fault p " + ",".join(["0", "1"] * 30)), "good")

    def test_nothing_done(self):
        desk = Desk()
        for line in [" undo", "fewest p", "wish p x", "at", "undo"]:
            with self.assertRaises(CellError):
                desk.tell(line)
            self.assertEqual(desk.undoable(), 0)
        with self.assertRaises(NothingDone):
            desk.tell("undo")

    def test_it_is_equal_to_nothing_else(self):
        for thing in odd_things():
            self.assertFalse(self.desk == thing)

    def test_codes_of_their_own(self):
        self.assertEqual((EXAMPLE, TURNS, WIDE), (translated(source(EXAMPLE)), CODES[3], CODES[4]))


if __name__ == "__main__":
    unittest.main()
