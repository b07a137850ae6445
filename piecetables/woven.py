"""The whole that is woven of agreeing pieces whose scheme has steps."""

from math import lcm

from piecetables.divisors import table_of
from piecetables.errors import NoSteps
from piecetables.reports import check_agreement
from piecetables.rows import part_places
from piecetables.schemes import steps


def woven(report):
    """Return the whole that is woven of the pieces of a report."""
    check_agreement(report)
    taken = steps(report.scheme)
    if taken is None:
        raise NoSteps("a report whose scheme has steps is needed")
    return table_of_shares(products(report.many, report.pieces), dividers(report, taken))


def products(many, pieces):
    """Return, for each row of many variables, the product of the counts that pieces have for it."""
    numbers = [1] * (1 << many)
    for piece in pieces:
        places = part_places(many, piece.variables)
        numbers = [number * piece.counts[place] for number, place in zip(numbers, places)]
    return numbers


def dividers(report, taken):
    """Return, for each row of all variables, what the product of the counts of the pieces is divided by."""
    told = [variable for piece in report.pieces for variable in piece.variables]
    untold = [variable for variable in range(report.many) if variable not in told]
    scale = 1 << len(untold)
    seams = []
    for one, other in taken:
        common = tuple([variable for variable in report.pieces[one].variables if variable in report.pieces[other]])
        if common:
            seams.append(report.pieces[one](common))
        else:
            scale = scale * report.total
    return [scale * product for product in products(report.many, seams)]


def table_of_shares(numbers, parts):
    """Return the table in which the share of each row is a number over its part, or 0 if the number is 0."""
    # Only where the number is 0 can the part be 0.
    factor = 1
    for number, part in zip(numbers, parts):
        if number > 0:
            factor = lcm(factor, part)
    counts = [number * (factor // part) if number > 0 else 0 for number, part in zip(numbers, parts)]
    return table_of(factor, counts)
