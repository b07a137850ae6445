"""Pairs around a ring, and the pieces of them that show that there is no whole."""

from piecetables.errors import NoRing
from piecetables.reports import check_agreement, check_report
from piecetables.subsets import sets_below


def rim(report):
    """Return the first set of an odd number of pieces that are unlike too often for a whole, or None."""
    check_report(report)
    if not are_around_ring(report.scheme[1]):
        raise NoRing("different pairs of variables around a ring are needed")
    check_agreement(report)
    unlike = [piece[0, 1] + piece[1, 0] for piece in report.pieces]
    for numbers in sets_below(len(report)):
        if len(numbers) % 2 == 1 and excess_of(numbers, unlike) > (len(numbers) - 1) * report.total:
            return numbers
    return None


def are_around_ring(groups):
    """Tell whether the groups of a report are different pairs that lie around a ring."""
    if not all([len(group) == 2 and groups.count(group) == 1 for group in groups]):
        return False
    # Nothing asks how many pairs there are and whether one comes from each to each other one: it takes three
    # different pairs to have each variable twice, and six to make two rings.
    variables = [variable for group in groups for variable in group]
    return all([variables.count(variable) == 2 for variable in variables])


def excess_of(numbers, unlike):
    """Return the unlike counts of the pieces of these numbers less those of all other pieces."""
    return sum([count if number in numbers else -count for number, count in enumerate(unlike)])
