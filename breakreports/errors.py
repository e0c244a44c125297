"""All refusals of the package, each a class of its own."""


class ReportError(ValueError):
    """Any refusal."""


class BadReport(ReportError):
    """No report: which part of it is wrong, and the number of the wrong thing in that part."""

    def __init__(self, part, number):
        super().__init__(f"no report: {part} is wrong at {number}")
        self.part = part
        self.number = number


class BadSize(ReportError):
    """A size that can't be."""


class BadAgain(ReportError):
    """Levels to be told again that can't be."""


class BadKeys(ReportError):
    """Pairs of key fields that can't be."""


class BadRows(ReportError):
    """The row of this number can't be, or is one too many."""

    def __init__(self, number):
        super().__init__(f"row {number} can't be")
        self.number = number


class BadOrder(ReportError):
    """The row of this number stands behind one that it should be ahead of."""

    def __init__(self, number):
        super().__init__(f"row {number} is out of order")
        self.number = number


class BadPlan(ReportError):
    """The step of this number can't be, or is one too many."""

    def __init__(self, number):
        super().__init__(f"step {number} can't be")
        self.number = number


class BadMoves(ReportError):
    """The move of this number can't be, is out of order, or is one too many."""

    def __init__(self, number):
        super().__init__(f"move {number} can't be")
        self.number = number


class BadText(ReportError):
    """The row of this number can't stand where it does in a report's text."""

    def __init__(self, row):
        super().__init__(f"row {row} of the text can't stand there")
        self.row = row
