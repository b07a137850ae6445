"""Reports: some pieces of the same total over the same variables."""

from piecetables.checks import is_between, is_group
from piecetables.errors import Disagree, NoMany, NoNumber, NoPiece, NoReport, NoText, NoTotal, NoVariables, PieceError
from piecetables.limits import check_limit
from piecetables.pieces import Piece, has_all, is_piece, piece_line
from piecetables.texts import number_in, numbers_in


class Report:
    """One to five pieces, numbered from 0, over variables from 0 to many - 1."""

    LIMIT = 5

    def __init__(self, many, *pieces):
        if not is_between(many, 1, Report.LIMIT):
            raise NoMany("a number of variables from 1 to 5 is needed")
        check_pieces(many, pieces)
        self._many = many
        self._pieces = pieces
        self._total = pieces[0].total
        self._scheme = (many, tuple([piece.variables for piece in pieces]))

    @property
    def many(self):
        """The number of variables."""
        return self._many

    @property
    def pieces(self):
        """The pieces, as a tuple."""
        return self._pieces

    @property
    def total(self):
        """The total of each piece."""
        return self._total

    @property
    def scheme(self):
        """The number of variables, and the groups of the pieces."""
        return self._scheme

    def __call__(self, variables):
        """Return what the first piece that has all of these variables says of them, or None."""
        if not is_group(variables, self._many):
            raise NoVariables("a group of the variables of the report is needed")
        for piece in self._pieces:
            if has_all(piece, variables):
                return piece(variables)
        return None

    def __add__(self, other):
        """Return the report with one more piece at the end."""
        pieces = self._pieces + (other,)
        return Report(self._many, *pieces)

    def __sub__(self, other):
        """Return the report without the piece of a number."""
        if len(self._pieces) == 1 or not is_between(other, 0, len(self._pieces) - 1):
            raise NoNumber("the number of a piece is needed, and one more piece")
        pieces = self._pieces[:other] + self._pieces[other + 1:]
        return Report(self._many, *pieces)

    def __or__(self, other):
        """Return both reports side by side, the variables of the second one behind those of the first."""
        if not isinstance(other, Report):
            raise NoReport("a report is needed")
        many = self._many + other.many
        check_limit(many, Report.LIMIT)
        pieces = self._pieces + tuple([moved(piece, self._many) for piece in other.pieces])
        return Report(many, *pieces)

    def __len__(self):
        """Return the number of pieces."""
        return len(self._pieces)

    def __eq__(self, other):
        return isinstance(other, Report) and self._many == other._many and self._pieces == other._pieces

    def __repr__(self):
        return f"Report({self._many} variables, {len(self._pieces)} pieces)"

    def text(self):
        """Write the report, a line for the number of variables and one for each piece."""
        lines = [f"variables {self._many}"]
        for piece in self._pieces:
            lines.append(piece_line(piece))
        return "".join([f"{line}\n" for line in lines])

    @staticmethod
    def read(text):
        """Return the report that has exactly this text."""
        if not isinstance(text, str):
            raise NoText("a text is needed")
        try:
            report = report_in(text)
        except PieceError:
            raise NoText("the text of a report is needed") from None
        if report.text() != text:
            raise NoText("the text of a report is needed, sign for sign")
        return report


def check_pieces(many, pieces):
    """Refuse what cannot be the pieces of a report of many variables."""
    if not pieces or not all([is_piece(piece, many) for piece in pieces]):
        raise NoPiece("pieces of the variables of the report are needed")
    check_limit(len(pieces), Report.LIMIT)
    if not all([piece.total == pieces[0].total for piece in pieces]):
        raise NoTotal("pieces of the same total are needed")


def check_report(thing):
    """Refuse what is not a report."""
    if not isinstance(thing, Report):
        raise NoReport("a report is needed")


def moved(piece, distance):
    """Return a piece with its variables numbered on."""
    return Piece(tuple([variable + distance for variable in piece.variables]), piece.counts)


def report_in(text):
    """Return the report that a text names, without a look at how it is written."""
    lines = text.split("\n")
    many = number_in(lines[0].removeprefix("variables "))
    pieces = [piece_in(line) for line in lines[1:-1]]
    return Report(many, *pieces)


def piece_in(line):
    """Return the piece that a line names, without a look at how it is written."""
    variables, _, counts = line.partition(": ")
    return Piece(numbers_in(variables), numbers_in(counts))


def clash(report):
    """Return the numbers and the common variables of the first two pieces that do not agree, or None."""
    check_report(report)
    for second in range(len(report)):
        for first in range(second):
            variables = quarrel(report.pieces[first], report.pieces[second])
            if variables is not None:
                return (first, second, variables)
    return None


def check_agreement(report):
    """Refuse a report of which two pieces do not agree."""
    found = clash(report)
    if found is not None:
        first, second, _ = found
        raise Disagree(first, second)


def quarrel(piece, other):
    """Return the common variables of two pieces if they say different things of them, or None."""
    common = tuple([variable for variable in piece.variables if variable in other])
    if not common or piece(common) == other(common):
        return None
    return common
