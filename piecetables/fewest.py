"""Too many pieces: which ones to drop, and which ones cannot stand beside each other."""

from piecetables.reports import Report, check_report
from piecetables.subsets import sets_below
from piecetables.wholes import whole


def drops(report):
    """Return the first set of numbers of pieces, in order, without which the other pieces have a whole."""
    check_report(report)
    everyone = range(len(report))
    for numbers in sets_below(len(report)):
        if have_whole(report, [number for number in everyone if number not in numbers]):
            break
    return numbers


def quarrels(report):
    """Yield, in order, all sets of numbers of pieces that have no whole, but have one without any one of them."""
    check_report(report)
    found = []
    for numbers in sets_below(len(report)):
        # A set that has all of a smaller quarrel has no whole without some one of the others either.
        if not has_all_of_one(numbers, found) and not have_whole(report, numbers):
            found.append(numbers)
            yield numbers


def have_whole(report, numbers):
    """Tell whether the pieces of these numbers have a whole."""
    if not numbers:
        return True
    pieces = [report.pieces[number] for number in numbers]
    word, _ = whole(Report(report.many, *pieces))
    return word == "whole"


def has_all_of_one(numbers, sets):
    """Tell whether a set has all the numbers of one of some sets."""
    return any([all([number in numbers for number in one]) for one in sets])
