"""How small and how great the share of a pattern is in the wholes of a report."""

from piecetables.checks import is_between, is_integer
from piecetables.divisors import reduced, table_of
from piecetables.errors import NoPattern
from piecetables.reports import check_report
from piecetables.rows import all_rows
from piecetables.stakes import are_stakes, piece_gains, row_gains, stakes_of
from piecetables.wholes import settled, shows_whole

# What is sought is the least sum of the counts that fit, each times the sign.
LEAST = 1
GREATEST = -1


def least(report, pattern):
    """Return a whole with the least share of a pattern, and stakes and a unit that show it, or None."""
    return bound(report, pattern, LEAST)


def greatest(report, pattern):
    """Return a whole with the greatest share of a pattern, and stakes and a unit that show it, or None."""
    return bound(report, pattern, GREATEST)


def shows_least(report, pattern, thing):
    """Tell whether a value is a whole with the least share, and stakes and a unit that show it."""
    return shows_bound(report, pattern, thing, LEAST)


def shows_greatest(report, pattern, thing):
    """Tell whether a value is a whole with the greatest share, and stakes and a unit that show it."""
    return shows_bound(report, pattern, thing, GREATEST)


def check_pattern(thing, many):
    """Refuse what is not a pattern for many variables."""
    if not isinstance(thing, tuple) or len(thing) != many:
        raise NoPattern("a tuple with a value or None for each variable is needed")
    if not all([part is None or is_between(part, 0, 1) for part in thing]):
        raise NoPattern("only 0, 1 and None can stand in a pattern")


def fitting(pattern):
    """Return 1 for each row of all variables that fits a pattern, and 0 for the others."""
    return [int(fits(row, pattern)) for row in all_rows(len(pattern))]


def fits(row, pattern):
    """Tell whether a row has the values of a pattern that are not None."""
    return all([wanted is None or wanted == value for value, wanted in zip(row, pattern)])


def bound(report, pattern, sign):
    """Return what least or greatest, as the sign says, return for a report and a pattern."""
    check_report(report)
    check_pattern(pattern, report.many)
    tableau = settled(report)
    if tableau.worth() > 0:
        return None
    tableau.free_lacks()
    tableau.aim([sign * one for one in fitting(pattern)], 0)
    tableau.settle()
    numbers = reduced([tableau.divisor, *[sign * weight for weight in tableau.weights()]])
    return (table_of(tableau.divisor, tableau.solution()), stakes_of(report, numbers[1:]), numbers[0])


def shows_bound(report, pattern, thing, sign):
    """Tell whether a value is what least or greatest, as the sign says, may return."""
    check_report(report)
    check_pattern(pattern, report.many)
    if not isinstance(thing, tuple) or len(thing) != 3:
        return False
    table, stakes, unit = thing
    if not shows_whole(report, table) or not are_stakes(stakes, report) or not is_integer(unit) or unit < 1:
        return False
    chosen = fitting(pattern)
    if not all([sign * gain <= sign * unit * one for gain, one in zip(row_gains(report, stakes), chosen)]):
        return False
    factor, counts = table
    return factor * piece_gains(report, stakes) == unit * sum([count * one for count, one in zip(counts, chosen)])
