"""What is refused, a class for each kind of it."""


class WorkError(ValueError):
    """Any refusal."""


class BadProgram(WorkError):
    """A program that can't be: the row's number, -1 for none of them, and why."""

    def __init__(self, number, why):
        WorkError.__init__(self, f"the program can't be: row {number}, {why}")
        self.number = number
        self.why = why


class BadHanded(WorkError):
    """What is handed in is no list of at most 40 numbers from 0 to 10006."""


class BadWay(WorkError):
    """A way that is neither "back" nor "on"."""


class BadOften(WorkError):
    """How often marks are kept is no number from 0 to 99."""


class BadLog(WorkError):
    """A log with an entry that is none: its number."""

    def __init__(self, number):
        WorkError.__init__(self, f"entry {number} of the log can't be")
        self.number = number


class BadWeights(WorkError):
    """Weights of which one can't be: its number."""

    def __init__(self, number):
        WorkError.__init__(self, f"weight {number} can't be")
        self.number = number


class BadFalls(WorkError):
    """Falls of which one can't be: its number."""

    def __init__(self, number):
        WorkError.__init__(self, f"fall {number} can't be")
        self.number = number


class BadMarks(WorkError):
    """Marks of which one can't be: its number."""

    def __init__(self, number):
        WorkError.__init__(self, f"mark {number} can't be")
        self.number = number


class BadPrice(WorkError):
    """A price that is no number from 0 to 999."""


class BadText(WorkError):
    """A text with a row that can't be so by its words: the row's number."""

    def __init__(self, row):
        WorkError.__init__(self, f"row {row} of the text can't be")
        self.row = row
