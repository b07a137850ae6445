"""Pieces: how often each row of answers to one to three questions occurred."""

from piecetables.checks import are_counts, is_between, is_group, is_integer, is_row
from piecetables.errors import NoCounts, NoFactor, NoPiece, NoRow, NoVariables
from piecetables.limits import check_limit
from piecetables.rows import part_sums, place_of
from piecetables.texts import spaced

# Variables are below this number.
MOST_VARIABLES = 5


class Piece:
    """A group of variables with a count for each row of them, in order."""

    LIMIT = 1000

    def __init__(self, variables, counts):
        if not is_group(variables, MOST_VARIABLES):
            raise NoVariables("a group of variables from 0 to 4 is needed")
        if not are_counts(counts, 1 << len(variables), Piece.LIMIT):
            raise NoCounts("a count for each row is needed, with a total from 1 to 1000")
        self._variables = variables
        self._counts = counts
        self._total = sum(counts)

    @property
    def variables(self):
        """The group of the variables."""
        return self._variables

    @property
    def counts(self):
        """The counts of the rows, in order."""
        return self._counts

    @property
    def total(self):
        """The sum of the counts."""
        return self._total

    def __call__(self, variables):
        """Return the piece of some of the variables, or of all of them."""
        if not is_group(variables, MOST_VARIABLES) or not has_all(self, variables):
            raise NoVariables("a group of variables of the piece is needed")
        own = [self._variables.index(variable) for variable in variables]
        return Piece(variables, part_sums(self._counts, len(self._variables), own))

    def __getitem__(self, at):
        """Return the count of a row."""
        if not is_row(at, len(self._variables)):
            raise NoRow("a row of the variables of the piece is needed")
        return self._counts[place_of(at)]

    # Python would otherwise iterate by __getitem__ with 0, 1 .., which are no rows.
    def __iter__(self):
        raise TypeError("a piece cannot be iterated over")

    def __add__(self, other):
        """Return the piece with the counts of both."""
        if not isinstance(other, Piece) or other.variables != self._variables:
            raise NoPiece("a piece of the same variables is needed")
        check_limit(self._total + other.total, Piece.LIMIT)
        return Piece(self._variables, tuple([one + more for one, more in zip(self._counts, other.counts)]))

    def __mul__(self, other):
        """Return the piece with all counts multiplied by a factor."""
        if not is_integer(other) or other < 1:
            raise NoFactor("an integer from 1 on is needed")
        check_limit(self._total * other, Piece.LIMIT)
        return Piece(self._variables, tuple([count * other for count in self._counts]))

    def __len__(self):
        """Return the number of rows."""
        return len(self._counts)

    def __contains__(self, variable):
        """Tell whether a value is one of the variables."""
        return is_integer(variable) and variable in self._variables

    def __eq__(self, other):
        return isinstance(other, Piece) and self._variables == other._variables and self._counts == other._counts

    def __repr__(self):
        return f"Piece({piece_line(self)})"


def has_all(piece, variables):
    """Tell whether a piece has all of these variables."""
    return all([variable in piece for variable in variables])


def is_piece(thing, many):
    """Tell whether a value is a piece of variables below many."""
    return isinstance(thing, Piece) and is_between(thing.variables[-1], 0, many - 1)


def piece_line(piece):
    """Write the variables of a piece, a colon, and its counts."""
    return f"{spaced(piece.variables)}: {spaced(piece.counts)}"
