"""The whole behind a report, or a bet that shows that there is none."""

from piecetables.checks import is_table
from piecetables.divisors import reduced, table_of
from piecetables.reports import check_report
from piecetables.rows import part_places, part_sums
from piecetables.simplex import Tableau
from piecetables.stakes import are_stakes, piece_gains, row_gains, stakes_of


def whole(report):
    """Return ("whole", table) with a whole of a report, or ("bet", stakes) with a bet against it."""
    check_report(report)
    tableau = settled(report)
    if tableau.worth() > 0:
        return ("bet", stakes_of(report, reduced([-weight for weight in tableau.weights()])))
    return ("whole", table_of(tableau.divisor, tableau.solution()))


def shows_whole(report, thing):
    """Tell whether a value is a whole of a report."""
    check_report(report)
    if not is_table(thing, report.many):
        return False
    factor, counts = thing
    for piece in report.pieces:
        if part_sums(counts, report.many, piece.variables) != tuple([factor * count for count in piece.counts]):
            return False
    return True


def shows_bet(report, thing):
    """Tell whether a value is a bet against a report."""
    check_report(report)
    return are_stakes(thing, report) and min(row_gains(report, thing)) >= 0 and piece_gains(report, thing) < 0


def settled(report):
    """Return the equations that a whole of a report meets, with the sum of their lacks as small as it can be."""
    amounts = [count for piece in report.pieces for count in piece.counts]
    tableau = Tableau(equations_of(report), amounts)
    tableau.settle()
    return tableau


def equations_of(report):
    """Return an equation for each row of each piece: 1 for the rows of all variables that have its values."""
    equations = []
    for piece in report.pieces:
        places = part_places(report.many, piece.variables)
        for part in range(len(piece)):
            equations.append([int(place == part) for place in places])
    return equations
