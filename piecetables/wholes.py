"""The whole behind a report, or a bet that shows that there is none."""

from math import gcd

from piecetables.checks import are_integers, is_table
from piecetables.reports import check_report
from piecetables.rows import part_places, part_sums
from piecetables.simplex import Tableau


def whole(report):
    """Return ("whole", table) with a whole of a report, or ("bet", stakes) with a bet against it."""
    check_report(report)
    amounts = [count for piece in report.pieces for count in piece.counts]
    tableau = Tableau(equations_of(report), amounts)
    tableau.settle()
    if tableau.lack() > 0:
        return ("bet", stakes_of(report, reduced(tableau.weights())))
    numbers = reduced([tableau.divisor, *tableau.solution()])
    return ("whole", (numbers[0], tuple(numbers[1:])))


def shows_whole(report, thing):
    """Tell whether a value is a whole of a report."""
    check_report(report)
    if not is_table(thing, report.many):
        return False
    factor, counts = thing
    for piece in report.pieces:
        if part_sums(counts, report.many, piece.variables) != tuple([factor * count for count in piece.counts]):
            return False
    return True


def shows_bet(report, thing):
    """Tell whether a value is a bet against a report."""
    check_report(report)
    return are_stakes(thing, report) and min(row_gains(report, thing)) >= 0 and piece_gains(report, thing) < 0


def equations_of(report):
    """Return an equation for each row of each piece: 1 for the rows of all variables that have its values."""
    equations = []
    for piece in report.pieces:
        places = part_places(report.many, piece.variables)
        for part in range(len(piece)):
            equations.append([int(place == part) for place in places])
    return equations


def are_stakes(thing, report):
    """Tell whether a value is stakes for the pieces of a report."""
    if not isinstance(thing, tuple) or len(thing) != len(report):
        return False
    return all([are_integers(part, len(piece)) for part, piece in zip(thing, report.pieces)])


def row_gains(report, stakes):
    """Return what each row of all variables brings."""
    size = 1 << report.many
    gains = [0] * size
    for part, piece in zip(stakes, report.pieces):
        places = part_places(report.many, piece.variables)
        gains = [gain + part[place] for gain, place in zip(gains, places)]
    return gains


def piece_gains(report, stakes):
    """Return what the pieces bring."""
    gains = 0
    for part, piece in zip(stakes, report.pieces):
        gains = gains + sum([stake * count for stake, count in zip(part, piece.counts)])
    return gains


def stakes_of(report, weights):
    """Return the stakes in which the rows of the pieces have these weights, one after another."""
    stakes = []
    start = 0
    for piece in report.pieces:
        stakes.append(tuple(weights[start:start + len(piece)]))
        start = start + len(piece)
    return tuple(stakes)


def reduced(numbers):
    """Return numbers, not all of them 0, without their common divisor."""
    divisor = 0
    for number in numbers:
        divisor = gcd(divisor, number)
    return [number // divisor for number in numbers]
