"""Point 7.1: Runner, led forth and back, copied, with breaks."""

import random
import unittest

from oncetwice.codes import Code, plain
from oncetwice.compiling import compiled, ran_compiled
from oncetwice.errors import NoCompiled, NoContents, NoNumber, NoRow, NothingDone, NotRunning
from oncetwice.runners import Runner
from tests.coding import CALLS, CODES, EXAMPLE, ROUNDS, Leader, at_once, drawn_begins, drawn_code, say, shown
from tests.helping import odd_things, row, writing
from tests.test_compiling import NO_SPARE, SMALL, all_other_programs
from tests.test_plain import NO_BEGINS, NO_MOST

EXCHANGE = Code(2, (0, 1), (at_once({0: (0, 1, 0), 1: (1, 0, 0)}), say(1, 0, 0)))
THROUGH = ((writing(3, 1, 0, 0, 0), writing(0, 0, 1, 0, 0), writing(1, 0, 0, 0, 1)), ())
NO_BREAKS = [-1, 10 ** 29, (0,), [0], "0", b"0", *odd_things()]


def runner_of(code, spare, begins):
    return Runner(code, spare, compiled(code, spare), begins)


def pairs(chance):
    """Codes with the programs of theirs, with spare cells and begins."""
    for code in [*CODES, SMALL, EXCHANGE, *[drawn_code(chance) for _ in range(40)]]:
        spare = chance.randrange(3)
        for programs in [compiled(code, spare), all_other_programs(chance, code, spare)]:
            yield code, spare, programs, drawn_begins(chance, code)


class ByHandTest(unittest.TestCase):

    def test_at_first(self):
        runner = Runner(EXCHANGE, 1, THROUGH, row(5, "2/3"))
        self.assertEqual((runner.word(), runner.row(), runner.moment(), runner.steps()), ("runs", 0, 0, 0))
        self.assertEqual(runner.contents(), row(5, "2/3", 1, 0))
        self.assertEqual((runner.said(), runner.remembered(), runner.breaks()), ((), (), ()))

    def test_a_set_row_writing_by_writing(self):
        runner = Runner(EXCHANGE, 1, THROUGH, row(5, "2/3"))
        told = []
        while runner.word() == "runs":
            self.assertIsNone(runner.step())
            told.append((runner.row(), runner.moment(), runner.contents(), runner.said()))
        self.assertEqual(told, [
            (0, 1, row(5, "2/3", 1, 5), ()),
            (0, 2, row("2/3", "2/3", 1, 5), ()),
            (1, 0, row("2/3", 5, 1, 5), ()),
            (2, 0, row("2/3", 5, 1, 5), row("2/3")),
        ])
        self.assertEqual((runner.word(), runner.steps()), ("end", 4))

    def test_rows_without_writings_are_done_whole(self):
        code = Code(1, (), (at_once({0: (1, 0)}), ("go", 3), say(8, 0), say(1, 0)))
        runner = runner_of(code, 0, row(4))
        self.assertEqual(compiled(code, 0), ((), (), (), ()))
        rows = []
        while runner.word() == "runs":
            rows.append((runner.row(), runner.moment()))
            runner.step()
        self.assertEqual(rows, [(0, 0), (1, 0), (3, 0)])
        self.assertEqual((runner.row(), runner.said(), runner.steps()), (4, row(4), 3))

    def test_calls(self):
        runner = runner_of(CALLS, 0, row(2, 0, 0))
        depths = []
        while runner.word() == "runs":
            if runner.moment() == 0:
                depths.append((runner.row(), runner.remembered()))
            runner.step()
        self.assertEqual(depths[:3], [(0, ()), (2, (1,)), (3, (1,))])
        self.assertIn((2, (1, 5, 5)), depths)
        self.assertEqual(depths[-3:], [(5, (1,)), (6, (1,)), (1, ())])
        self.assertEqual((runner.word(), runner.row(), runner.remembered()), ("end", 7, ()))
        self.assertEqual(runner.contents()[1:3], row(4, 3))

    def test_faults(self):
        runner = runner_of(Code(1, (0,), (("back",),)), 0, row(1))
        self.assertEqual((runner.word(), runner.row(), runner.steps()), ("fault", 0, 0))
        runner = runner_of(Code(1, (0,), (("call", 0),)), 0, row(1))
        self.assertEqual(runner.go(100), 20)
        self.assertEqual((runner.word(), runner.row(), runner.remembered()), ("fault", 0, (1,) * 20))
        runner = runner_of(CALLS, 0, row(20, 0, 0))
        self.assertEqual(runner.go(1000), 20 * 3 + 20)
        self.assertEqual((runner.word(), runner.row(), runner.remembered()), ("fault", 4, (1,) + (5,) * 19))

    def test_no_rows(self):
        runner = Runner(Code(1, (0,), ()), 2, (), row(3))
        self.assertEqual((runner.word(), runner.row(), runner.moment(), runner.contents()), ("end", 0, 0, row(3, 1, 0, 0)))
        self.assertEqual(runner.go(5), 0)

    def test_the_run_of_the_example(self):
        runner = runner_of(EXAMPLE, 0, row(1, 2))
        self.assertEqual(runner.go(10000), 4)
        self.assertEqual((runner.said(), runner.word(), runner.contents()[:1]), (row("1/2"), "end", row(2)))

    def test_not_running(self):
        for runner in [runner_of(EXAMPLE, 0, row(1, 2)), runner_of(Code(1, (), (say(1, 0), ("back",))), 0, row(1))]:
            many = runner.go(100)
            before = shown(runner, 1)
            for _ in range(3):
                with self.assertRaises(NotRunning):
                    runner.step()
                self.assertEqual(shown(runner, 1), before)
            runner.back()
            runner.step()
            self.assertEqual(runner.steps(), many)

    def test_nothing_done(self):
        runner = runner_of(EXAMPLE, 0, row(1, 2))
        before = shown(runner, 2)
        for _ in range(2):
            with self.assertRaises(NothingDone):
                runner.back()
            self.assertEqual(shown(runner, 2), before)
        runner.step()
        self.assertIsNone(runner.back())
        with self.assertRaises(NothingDone):
            runner.back()
        self.assertEqual(shown(runner, 2), before)

    def test_what_it_told_stays_as_it_was_told(self):
        runner = runner_of(ROUNDS, 1, row(3, 0))
        told = []
        for _ in range(12):
            told.append((runner.contents(), list(runner.contents()), runner.said(), list(runner.said())))
            runner.step()
        for contents, kept_contents, said, kept_said in told:
            self.assertEqual((list(contents), list(said)), (kept_contents, kept_said))
        self.assertEqual(runner.said(), row(3, 2, 1)[:len(runner.said())])

    def test_it_is_equal_to_nothing_else(self):
        runner = runner_of(EXAMPLE, 0, row(1, 2))
        for thing in odd_things():
            self.assertFalse(runner == thing)


class LedTest(unittest.TestCase):

    def test_step_by_step_and_back_again(self):
        chance = random.Random(81)
        for code, spare, programs, begins in pairs(chance):
            runner, leader = Runner(code, spare, programs, begins), Leader(code, spare, programs, begins)
            places = [shown(runner, code.cells)]
            self.assertEqual(places[0], leader.shown())
            while runner.word() == "runs" and len(places) < 25:
                runner.step()
                leader.step()
                places.append(shown(runner, code.cells))
                self.assertEqual(places[-1], leader.shown())
            for place in places[-2::-1]:
                runner.back()
                self.assertEqual(shown(runner, code.cells), place)
            for place in places[1:]:
                runner.step()
                self.assertEqual(shown(runner, code.cells), place)

    def test_there_and_back_at_random(self):
        chance = random.Random(82)
        for code, spare, programs, begins in pairs(chance):
            runner, leader = Runner(code, spare, programs, begins), Leader(code, spare, programs, begins)
            for _ in range(40):
                if chance.random() < 0.6 and leader.word() == "runs":
                    runner.step()
                    leader.step()
                elif len(leader.places) > 1:
                    runner.back()
                    leader.places.pop()
            self.assertEqual(shown(runner, code.cells), leader.shown())

    def test_as_ran_compiled_tells(self):
        chance = random.Random(83)
        for code, spare, programs, begins in pairs(chance):
            runner = Runner(code, spare, programs, begins)
            runner.go(300)
            if runner.word() != "runs":
                outs = tuple(runner.contents()[cell] for cell in code.outs) if runner.word() == "end" else None
                told = (runner.said(), runner.word(), outs)
                self.assertEqual(told, ran_compiled(code, spare, programs, begins, 300))
                self.assertEqual(told, plain(code, begins, 300))

    def test_a_long_run_and_all_the_way_back(self):
        code = Code(1, (0,), (at_once({0: (1, 1)}), say(1, 0), ("go", 0)))
        runner = runner_of(code, 0, row(0))
        before = shown(runner, 1)
        self.assertEqual(runner.go(10000), 10000)
        self.assertEqual(runner.go(2000), 2000)
        self.assertEqual((runner.steps(), runner.said()[-1], len(runner.said())), (12000, (4000, 1), 4000))
        for _ in range(12000):
            runner.back()
        self.assertEqual(shown(runner, 1), before)


class CopyTest(unittest.TestCase):

    def test_copies_go_on_apart(self):
        chance = random.Random(84)
        for code, spare, programs, begins in pairs(chance):
            pair = [(Runner(code, spare, programs, begins), Leader(code, spare, programs, begins))]
            for _ in range(30):
                runner, leader = chance.choice(pair)
                way = chance.random()
                if way < 0.1 and len(pair) < 4:
                    other = Leader(code, spare, programs, begins)
                    other.places = list(leader.places)
                    pair.append((runner.copy(), other))
                    self.assertIs(type(pair[-1][0]), Runner)
                elif way < 0.7 and leader.word() == "runs":
                    runner.step()
                    leader.step()
                elif len(leader.places) > 1:
                    runner.back()
                    leader.places.pop()
            for runner, leader in pair:
                self.assertEqual(shown(runner, code.cells), leader.shown())
                while runner.steps():
                    runner.back()
                    leader.places.pop()
                self.assertEqual(shown(runner, code.cells), leader.shown())

    def test_breaks_are_copied_too(self):
        runner = runner_of(ROUNDS, 0, row(3, 0))
        runner.set_break(3)
        other = runner.copy()
        self.assertEqual(other.breaks(), (3,))
        other.set_break(1)
        runner.clear_break(3)
        runner.set_break(5)
        self.assertEqual((runner.breaks(), other.breaks()), ((5,), (1, 3)))
        self.assertEqual(other.go(100), 1)
        self.assertEqual((other.row(), runner.row()), (1, 0))

    def test_in_the_midst_of_a_row(self):
        runner = Runner(EXCHANGE, 1, THROUGH, row(5, 7))
        runner.go(2)
        other = runner.copy()
        runner.step()
        self.assertEqual((other.row(), other.moment(), other.contents(), other.steps()), (0, 2, row(7, 7, 1, 5), 2))
        other.back()
        self.assertEqual((other.contents(), runner.contents()), (row(5, 7, 1, 5), row(7, 5, 1, 5)))


class BreaksTest(unittest.TestCase):

    def test_set_and_cleared(self):
        runner = runner_of(ROUNDS, 0, row(3, 0))
        for at in [4, 0, 5, 2, 4, 0]:
            self.assertIsNone(runner.set_break(at))
        self.assertEqual(runner.breaks(), (0, 2, 4, 5))
        self.assertIsNone(runner.clear_break(4))
        self.assertEqual(runner.breaks(), (0, 2, 5))
        with self.assertRaises(NoRow):
            runner.clear_break(4)
        runner.clear_break(5)
        runner.clear_break(0)
        self.assertEqual(runner.breaks(), (2,))

    def test_go_stops_behind_a_step(self):
        runner = runner_of(ROUNDS, 0, row(3, 0))
        runner.set_break(0)
        # It stands at row 0 at first; it goes round once: same, say, two writings, go.
        self.assertEqual(runner.go(100), 5)
        self.assertEqual((runner.row(), runner.moment()), (0, 0))
        self.assertEqual(runner.go(100), 5)
        self.assertEqual(runner.go(3), 3)
        self.assertEqual((runner.row(), runner.moment()), (2, 1))
        self.assertEqual(runner.go(100), 2)
        runner.clear_break(0)
        self.assertEqual(runner.go(100), 2)
        self.assertEqual((runner.word(), runner.said()), ("end", row(3, 2, 1, 17)))

    def test_not_in_the_midst_of_a_row(self):
        runner = Runner(EXCHANGE, 1, THROUGH, row(5, 7))
        runner.set_break(0)
        self.assertEqual(runner.go(100), 4)
        runner = Runner(EXCHANGE, 1, THROUGH, row(5, 7))
        runner.set_break(1)
        self.assertEqual(runner.go(100), 3)
        self.assertEqual((runner.row(), runner.moment()), (1, 0))

    def test_at_a_row_that_goes_to_itself(self):
        runner = runner_of(Code(1, (), (("go", 0),)), 0, row(1))
        self.assertEqual(runner.go(7), 7)
        runner.set_break(0)
        self.assertEqual([runner.go(7), runner.go(7), runner.steps()], [1, 1, 9])

    def test_at_the_end(self):
        runner = runner_of(EXAMPLE, 0, row(1, 2))
        runner.set_break(3)
        self.assertEqual((runner.go(100), runner.word()), (4, "end"))
        self.assertEqual(runner.go(100), 0)

    def test_at_a_fault(self):
        runner = runner_of(Code(1, (), (say(1, 0), ("back",))), 0, row(1))
        runner.set_break(1)
        self.assertEqual((runner.go(100), runner.word()), (1, "fault"))
        self.assertEqual(runner.go(100), 0)

    def test_most_0_and_the_greatest(self):
        runner = runner_of(ROUNDS, 0, row(3, 0))
        before = shown(runner, 2)
        self.assertEqual(runner.go(0), 0)
        self.assertEqual(shown(runner, 2), before)
        self.assertEqual(runner.go(10000), 17)

    def test_back_takes_no_breaks_back(self):
        runner = runner_of(ROUNDS, 0, row(3, 0))
        runner.step()
        runner.set_break(2)
        runner.step()
        runner.clear_break(2)
        runner.set_break(3)
        runner.back()
        self.assertEqual((runner.breaks(), runner.steps()), ((3,), 1))
        runner.back()
        self.assertEqual(runner.breaks(), (3,))
        with self.assertRaises(NothingDone):
            runner.back()

    def test_against_a_second_reckoning(self):
        chance = random.Random(85)
        for code, spare, programs, begins in pairs(chance):
            runner, leader = Runner(code, spare, programs, begins), Leader(code, spare, programs, begins)
            stops = set()
            for _ in range(12):
                at = chance.randrange(len(code.rows) + 1)
                if at in stops:
                    stops.remove(at)
                    runner.clear_break(at)
                else:
                    stops.add(at)
                    runner.set_break(at)
                self.assertEqual(runner.breaks(), tuple(sorted(stops)))
                most, done = chance.randrange(9), 0
                while done < most and leader.word() == "runs":
                    leader.step()
                    done += 1
                    if leader.places[-1][1] == 0 and leader.places[-1][0] in stops:
                        break
                self.assertEqual(runner.go(most), done)
                self.assertEqual(shown(runner, code.cells), leader.shown())


class ErrorsTest(unittest.TestCase):

    def test_made_of_wrong_things_in_their_order(self):
        programs = compiled(SMALL, 0)
        for spare in NO_SPARE:
            with self.assertRaises(NoNumber):
                Runner(SMALL, spare, None, None)
        for thing in [*odd_things(), programs[:3], programs + ((),), list(programs), compiled(SMALL, 1), ((),) * 4]:
            for begins in [row(1, 2), None]:
                with self.assertRaises(NoCompiled):
                    Runner(SMALL, 0, thing, begins)
        for begins in NO_BEGINS:
            with self.assertRaises(NoContents):
                Runner(SMALL, 0, programs, begins)

    def test_no_row(self):
        runner = runner_of(EXAMPLE, 0, row(1, 2))
        runner.set_break(2)
        runner.step()
        before = shown(runner, 2)
        for at in [4, *NO_BREAKS]:
            with self.assertRaises(NoRow):
                runner.set_break(at)
            with self.assertRaises(NoRow):
                runner.clear_break(at)
        for at in [0, 1, 3]:
            with self.assertRaises(NoRow):
                runner.clear_break(at)
        self.assertEqual((shown(runner, 2), runner.breaks()), (before, (2,)))
        runner.set_break(0)
        runner.set_break(1)
        for at in NO_BREAKS:
            with self.assertRaises(NoRow):
                runner.clear_break(at)
        self.assertEqual(runner.breaks(), (0, 1, 2))

    def test_no_number(self):
        runner = runner_of(EXAMPLE, 0, row(1, 2))
        runner.step()
        before = shown(runner, 2)
        for most in NO_MOST:
            with self.assertRaises(NoNumber):
                runner.go(most)
        self.assertEqual(shown(runner, 2), before)


if __name__ == "__main__":
    unittest.main()
