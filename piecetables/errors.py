"""The exceptions of the package."""


class PieceError(ValueError):
    """What every exception of the package is derived from."""


class NoVariables(PieceError):
    """A value is not a group of variables that can be used here."""


class NoCounts(PieceError):
    """A value is not the counts of a piece."""


class NoRow(PieceError):
    """A value is not a row of the variables."""


class NoFactor(PieceError):
    """A value is not an integer from 1 on."""


class NoMany(PieceError):
    """A value is not a number of variables."""


class NoPiece(PieceError):
    """A value is not a piece that can be used here."""


class NoTotal(PieceError):
    """A total is none, or not the same as another one."""


class NoReport(PieceError):
    """A value is not a report."""


class NoNumber(PieceError):
    """A value is not the number of a piece that can be taken away."""


class NoPattern(PieceError):
    """A value is not a pattern for the variables."""


class NoScheme(PieceError):
    """A value is not a scheme."""


class NoSteps(PieceError):
    """A scheme has no steps."""


class NoRing(PieceError):
    """A report does not lie around a ring."""


class NoText(PieceError):
    """A value is not the text of a report."""


class NothingDone(PieceError):
    """There is nothing that can be undone."""


class Disagree(PieceError):
    """Two pieces, given by their numbers, say different things of their common variables."""

    def __init__(self, first, second):
        self.first = first
        self.second = second


class Lost(PieceError):
    """Stakes are a bet against the pieces."""

    def __init__(self, stakes):
        self.stakes = stakes


class TooMany(PieceError):
    """An amount is greater than its limit."""

    def __init__(self, amount, limit):
        self.amount = amount
        self.limit = limit
