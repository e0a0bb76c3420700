"""The errors of the package."""


class SheetError(ValueError):
    """A value is not of the form that is asked for, or does not go with the others."""


class InvalidFormula(SheetError):
    """No formula, no term of one, or no value for its letters."""


class InvalidLot(SheetError):
    """No lot, or none that is asked for."""


class InvalidMove(SheetError):
    """No move, or none of so many places."""


class InvalidSwap(SheetError):
    """No swap of so many places."""


class InvalidRow(SheetError):
    """No row of swaps of so many places."""


class InvalidEnds(SheetError):
    """No ends."""


class InvalidMix(SheetError):
    """No mix of words and numbers, or no weight."""


class InvalidWay(SheetError):
    """No way of braid moves."""


class InvalidDrawing(SheetError):
    """No drawing."""


class InvalidPledge(SheetError):
    """No pledge."""


class InvalidOperation(SheetError):
    """The values, each by itself in order, do not go together."""


class ParseError(SheetError):
    """A text cannot be read at a spot."""

    def __init__(self, spot):
        SheetError.__init__(self, "the text cannot be read")
        self.spot = spot


class InvalidCount(IndexError):
    """No integer within the told bounds."""

    def __init__(self, value):
        IndexError.__init__(self, "no integer within the bounds")
        self.value = value


class UnknownName(KeyError):
    """None of the names or words that are known."""

    def __init__(self, name):
        KeyError.__init__(self, "this name is not known")
        self.name = name


class NothingToUndo(RuntimeError):
    """There are not so many changes to take back or to do again."""

    def __init__(self, wanted):
        RuntimeError.__init__(self, "there are not so many changes")
        self.wanted = wanted


class TooMany(OverflowError):
    """More than a limit lets."""

    def __init__(self, limit):
        OverflowError.__init__(self, "this is above the limit")
        self.limit = limit


class Refused(ArithmeticError):
    """Something that is asked for is refused for a reason."""

    def __init__(self, reason):
        ArithmeticError.__init__(self, "this is refused")
        self.reason = reason
