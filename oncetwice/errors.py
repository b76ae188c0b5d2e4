"""The errors of the package; a field keeps what was passed, as it is."""


class CellError(ValueError):
    """What every error of this package is."""


class BadWish(CellError):
    """A wish that can't be made; part tells what of it is wrong."""

    def __init__(self, part):
        self.part = part


class NoProgram(CellError):
    """A thing that is no program of the wish."""

    def __init__(self):
        super().__init__()


class NoContents(CellError):
    """A thing that does not tell what all cells hold."""

    def __init__(self):
        super().__init__()


class NoOrder(CellError):
    """A thing that is no order of the wish."""

    def __init__(self):
        super().__init__()


class NoMoment(CellError):
    """A thing that is no moment of the order."""

    def __init__(self):
        super().__init__()


class NoPrices(CellError):
    """A thing that does not tell a price for each cell."""

    def __init__(self):
        super().__init__()


class NoNumber(CellError):
    """A thing that is no integer of those that are allowed."""

    def __init__(self):
        super().__init__()


class NoTimetable(CellError):
    """A thing that is no timetable of the wish."""

    def __init__(self):
        super().__init__()


class NotOnto(CellError):
    """A wish or a table that is not one-to-one."""

    def __init__(self):
        super().__init__()


class NotAlike(CellError):
    """Two wishes that have not equally many cells."""

    def __init__(self):
        super().__init__()


class NotWhole(CellError):
    """A wish that has a free cell."""

    def __init__(self):
        super().__init__()


class TooMany(CellError):
    """More of something than is allowed; most tells how many are."""

    def __init__(self, most):
        self.most = most


class NoSources(CellError):
    """A thing that does not tell a source for each cell."""

    def __init__(self):
        super().__init__()


class BadTable(CellError):
    """A table that can't be made; part tells what of it is wrong."""

    def __init__(self, part):
        self.part = part


class BadCode(CellError):
    """A code that can't be made; part tells what of it is wrong."""

    def __init__(self, part):
        self.part = part


class NoRow(CellError):
    """A thing that is no number of such a row."""

    def __init__(self):
        super().__init__()


class NoCompiled(CellError):
    """A thing that is no compiled form of the code."""

    def __init__(self):
        super().__init__()


class NotRunning(CellError):
    """A runner that does not run any more."""

    def __init__(self):
        super().__init__()


class NothingDone(CellError):
    """Nothing was done that could be taken back."""

    def __init__(self):
        super().__init__()


class NoCell(CellError):
    """A thing that is no such cell."""

    def __init__(self):
        super().__init__()


class NoItem(CellError):
    """A thing that is neither None nor a row for a cell."""

    def __init__(self):
        super().__init__()


class IsLocked(CellError):
    """A cell that is locked already."""

    def __init__(self):
        super().__init__()


class NotLocked(CellError):
    """A cell that is not locked."""

    def __init__(self):
        super().__init__()


class NoWay(CellError):
    """A wish that no order makes."""

    def __init__(self):
        super().__init__()


class BadText(CellError):
    """A text that can't be read; line tells where."""

    def __init__(self, line):
        self.line = line


class NoLine(CellError):
    """A thing that is no line of the desk."""

    def __init__(self):
        super().__init__()


class NoName(CellError):
    """A name under which nothing is kept."""

    def __init__(self, name):
        self.name = name


class NoRunner(CellError):
    """No runner was started."""

    def __init__(self):
        super().__init__()
