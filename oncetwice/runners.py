"""Runners: a compiled code led writing by writing, back and forth."""

from oncetwice.codes import check_begins, check_most
from oncetwice.compiling import check_compiled, first_contents, house_wishes
from oncetwice.errors import NoCell, NoRow, NothingDone, NotRunning
from oncetwice.kinds import is_from_to
from oncetwice.ranks import holds, span_of
from oncetwice.runs import RUNS, behind_row, said_by, word_at, written
from oncetwice.sums import nought_row, unit_row, weighed
from oncetwice.wishes import standing


class Runner:
    """A run of a code in the house, with all its steps, which can be taken back."""

    def __init__(self, code, spare, programs, begins):
        check_compiled(code, spare, programs)
        check_begins(code, begins)
        self._code = code
        self._spare = spare
        self._programs = programs
        self._begins = begins
        self._wishes = house_wishes(code, spare)
        self._spot = row_begun(0, first_contents(begins, spare), ())
        self._spoken = []
        self._past = []
        self._stops = []

    def word(self):
        """The word for where it stands: "runs", "end" or "fault"."""
        return word_at(self._code, self._spot.at, self._spot.kept)

    def row(self):
        """The number of the row at which it stands."""
        return self._spot.at

    def moment(self):
        """How many writings of the set row at which it stands are done."""
        return self._spot.done

    def contents(self):
        """The tuple of what house and spare cells hold."""
        return self._spot.held

    def said(self):
        """The tuple of the numbers said."""
        return tuple(self._spoken)

    def remembered(self):
        """The tuple of the rows remembered, the latest last."""
        return self._spot.kept

    def step(self):
        """Does one writing of a set row, or a row without writings whole."""
        if self.word() != RUNS:
            raise NotRunning()
        spot = self._spot
        program = self._programs[spot.at]
        told = []
        if program:
            self._spot = behind_writing(spot, program)
        else:
            row = self._code.rows[spot.at]
            told = said_by(row, spot.held)
            at, kept = behind_row(row, spot.at, spot.held, spot.kept)
            self._spot = row_begun(at, spot.held, kept)
        self._past.append((spot, len(self._spoken)))
        self._spoken.extend(told)

    def steps(self):
        """How many steps were done and are not taken back."""
        return len(self._past)

    def back(self):
        """Takes the last step back."""
        if not self._past:
            raise NothingDone()
        self._spot, many = self._past.pop()
        if len(self._spoken) > many:
            self._spoken.pop()

    def copy(self):
        """Another Runner that stands at the same place and goes on apart."""
        other = Runner(self._code, self._spare, self._programs, self._begins)
        other._spot = self._spot
        other._spoken = list(self._spoken)
        other._past = list(self._past)
        other._stops = list(self._stops)
        return other

    def set_break(self, row):
        """Sets a break at a row, or at the END."""
        if not is_from_to(row, 0, len(self._code.rows)):
            raise NoRow()
        if row not in self._stops:
            self._stops.append(row)

    def clear_break(self, row):
        """Clears the break at a row, or at the END."""
        if not is_from_to(row, 0, len(self._code.rows)) or row not in self._stops:
            raise NoRow()
        self._stops.remove(row)

    def breaks(self):
        """The lot of the rows with a break."""
        return tuple(sorted(self._stops))

    def go(self, most):
        """Does at most so many steps, up to the next row with a break; how many were done."""
        check_most(most)
        done = 0
        while done < most and self.word() == RUNS:
            self.step()
            done += 1
            if self._spot.done == 0 and self._spot.at in self._stops:
                return done
        return done

    def was(self, cell):
        """What a cell of the house held when the row was begun, None if that is not sure."""
        self._check_cell(cell)
        wish = self._wish_here()
        if wish is None:
            return self._spot.held[cell]
        if not self._is_told(wish, unit_row(cell, len(wish.rows))):
            return None
        return self._spot.begun[cell]

    def will(self, cell):
        """What a cell of the house is to hold behind a set row, None if that is not sure."""
        self._check_cell(cell)
        wish = self._wish_here()
        if wish is None or wish.rows[cell] is None or not self._is_told(wish, wish.rows[cell]):
            return None
        return weighed(wish.rows[cell], self._spot.begun)

    def _check_cell(self, cell):
        """Raises NoCell for what is no cell of the house."""
        if not is_from_to(cell, 0, self._code.cells):
            raise NoCell()

    def _wish_here(self):
        """The Wish of the row at which it stands, None if that is no set row."""
        if self._spot.at == len(self._wishes):
            return None
        return self._wishes[self._spot.at]

    def _is_told(self, wish, row):
        """Whether this row of the house is a sum of multiples of what stands in all cells now."""
        stood = standing(wish, self._programs[self._spot.at][:self._spot.done])
        return holds(span_of(stood), row + nought_row(wish.spare))


class Spot:
    """Where a runner stands: at which row and moment, what all cells hold and held, what is remembered."""

    def __init__(self, at, done, held, begun, kept):
        self.at = at
        self.done = done
        self.held = held
        self.begun = begun
        self.kept = kept


def row_begun(at, held, kept):
    """The Spot at moment 0 of a row."""
    return Spot(at, 0, held, held, kept)


def behind_writing(spot, program):
    """The Spot behind the next writing of the program of the row at which it stands."""
    held = written((program[spot.done],), spot.held)
    if spot.done + 1 == len(program):
        return row_begun(spot.at + 1, held, spot.kept)
    return Spot(spot.at, spot.done + 1, held, spot.begun, spot.kept)
