"""Ledgers, which take pieces one after another and can give them back."""

from piecetables.checks import is_between
from piecetables.errors import Lost, NoMany, NoPiece, NothingDone, NoTotal
from piecetables.pieces import Piece, is_piece
from piecetables.reports import Report, check_agreement, check_report
from piecetables.wholes import whole


class Ledger:
    """Pieces over variables from 0 to many - 1 that have a total and, all together, a whole."""

    def __init__(self, many, total):
        if not is_between(many, 1, Report.LIMIT):
            raise NoMany("a number of variables from 1 to 5 is needed")
        if not is_between(total, 1, Piece.LIMIT):
            raise NoTotal("a total from 1 to 1000 is needed")
        self._many = many
        self._total = total
        self._pieces = ()

    @property
    def many(self):
        """The number of variables."""
        return self._many

    @property
    def total(self):
        """The total of each piece."""
        return self._total

    @property
    def pieces(self):
        """The pieces, as a tuple."""
        return self._pieces

    @property
    def report(self):
        """The report of the pieces, or None if there are none."""
        return report_or_none(self._many, self._pieces)

    @property
    def untold(self):
        """The set of the variables that no piece has."""
        return missing(self._many, self._pieces)

    def take(self, piece):
        """Take a piece, and return how many there are."""
        return self.take_all(piece)

    def __call__(self, piece):
        """Do what take does."""
        return self.take(piece)

    def take_all(self, *pieces):
        """Take pieces in order, or none if one of them is refused, and return how many there are."""
        self._pieces = lengthened(self, pieces, check_whole)
        return len(self._pieces)

    def undo(self):
        """Give the last piece back, and return it."""
        if not self._pieces:
            raise NothingDone("there is no piece to give back")
        piece = self._pieces[-1]
        self._pieces = self._pieces[:-1]
        return piece

    def trying(self):
        """Return a context manager: if an exception leaves its block, what was done in it is undone."""
        return Trial(self)

    def __len__(self):
        """Return the number of pieces."""
        return len(self._pieces)

    def __contains__(self, piece):
        """Tell whether a value equals one of the pieces."""
        return piece in self._pieces

    def __eq__(self, other):
        return isinstance(other, Ledger) and told_of(self) == told_of(other)

    def __repr__(self):
        return f"{class_name(self)}({self._many} variables, {len(self._pieces)} pieces)"


# The other ledgers have all methods in their own bodies, because the interface lists them for each class.


class Agreeing(Ledger):
    """Pieces over variables from 0 to many - 1 that have a total and all agree."""

    def __init__(self, many, total):
        Ledger.__init__(self, many, total)

    @property
    def many(self):
        """The number of variables."""
        return self._many

    @property
    def total(self):
        """The total of each piece."""
        return self._total

    @property
    def pieces(self):
        """The pieces, as a tuple."""
        return self._pieces

    @property
    def report(self):
        """The report of the pieces, or None if there are none."""
        return report_or_none(self._many, self._pieces)

    @property
    def untold(self):
        """The set of the variables that no piece has."""
        return missing(self._many, self._pieces)

    def take(self, piece):
        """Take a piece, and return how many there are."""
        return self.take_all(piece)

    def __call__(self, piece):
        """Do what take does."""
        return self.take(piece)

    def take_all(self, *pieces):
        """Take pieces in order, or none if one of them is refused, and return how many there are."""
        self._pieces = lengthened(self, pieces, check_agreement)
        return len(self._pieces)

    def undo(self):
        """Give the last piece back, and return it."""
        return super().undo()

    def trying(self):
        """Return a context manager: if an exception leaves its block, what was done in it is undone."""
        return super().trying()

    def __len__(self):
        """Return the number of pieces."""
        return len(self._pieces)

    def __contains__(self, piece):
        """Tell whether a value equals one of the pieces."""
        return piece in self._pieces

    def __eq__(self, other):
        return isinstance(other, Ledger) and told_of(self) == told_of(other)

    def __repr__(self):
        return f"{class_name(self)}({self._many} variables, {len(self._pieces)} pieces)"


class Loose(Ledger):
    """Pieces over variables from 0 to many - 1 that have a total, whatever they say."""

    def __init__(self, many, total):
        Ledger.__init__(self, many, total)

    @property
    def many(self):
        """The number of variables."""
        return self._many

    @property
    def total(self):
        """The total of each piece."""
        return self._total

    @property
    def pieces(self):
        """The pieces, as a tuple."""
        return self._pieces

    @property
    def report(self):
        """The report of the pieces, or None if there are none."""
        return report_or_none(self._many, self._pieces)

    @property
    def untold(self):
        """The set of the variables that no piece has."""
        return missing(self._many, self._pieces)

    def take(self, piece):
        """Take a piece, and return how many there are."""
        return self.take_all(piece)

    def __call__(self, piece):
        """Do what take does."""
        return self.take(piece)

    def take_all(self, *pieces):
        """Take pieces in order, or none if one of them is refused, and return how many there are."""
        self._pieces = lengthened(self, pieces, check_report)
        return len(self._pieces)

    def undo(self):
        """Give the last piece back, and return it."""
        return super().undo()

    def trying(self):
        """Return a context manager: if an exception leaves its block, what was done in it is undone."""
        return super().trying()

    def __len__(self):
        """Return the number of pieces."""
        return len(self._pieces)

    def __contains__(self, piece):
        """Tell whether a value equals one of the pieces."""
        return piece in self._pieces

    def __eq__(self, other):
        return isinstance(other, Ledger) and told_of(self) == told_of(other)

    def __repr__(self):
        return f"{class_name(self)}({self._many} variables, {len(self._pieces)} pieces)"


class Trial:
    """A context manager that leaves a ledger as it was when a block began if an exception leaves the block."""

    def __init__(self, ledger):
        self.ledger = ledger
        self.mark = None

    def __enter__(self):
        self.mark = Mark(self.ledger.pieces, self.mark)

    def __exit__(self, kind, value, trace):
        ledger = self.ledger
        mark = self.mark
        if kind is not None:
            ledger._pieces = mark.kept
        self.mark = mark.outer


class Mark:
    """The pieces of a ledger when a block began, and the mark of the block around it that has the same trial."""

    def __init__(self, kept, outer):
        self.kept = kept
        self.outer = outer


def lengthened(ledger, pieces, check):
    """Return the pieces of a ledger with more behind them, after a check of each report on the way."""
    held = ledger.pieces
    for piece in pieces:
        check_piece(ledger, piece)
        held = held + (piece,)
        # The report itself refuses one piece too many.
        check(Report(ledger.many, *held))
    return held


def check_piece(ledger, piece):
    """Refuse what cannot be a piece of a ledger, whatever it says."""
    if not is_piece(piece, ledger.many):
        raise NoPiece("a piece of the variables of the ledger is needed")
    if piece.total != ledger.total:
        raise NoTotal("a piece with the total of the ledger is needed")


def check_whole(report):
    """Refuse a report that has no whole."""
    word, shown = whole(report)
    if word == "bet":
        raise Lost(shown)


def report_or_none(many, pieces):
    """Return the report of pieces, or None if there are none."""
    return Report(many, *pieces) if pieces else None


def missing(many, pieces):
    """Return the set of the variables below many that no piece has."""
    return tuple([variable for variable in range(many) if not any([variable in piece for piece in pieces])])


def told_of(ledger):
    """Return what is the same of equal ledgers."""
    return (class_name(ledger), ledger.many, ledger.total, ledger.pieces)


def class_name(ledger):
    """Return the name of the class of a ledger."""
    return ledger.__class__.__name__
