"""All wholes of integers alone."""

from piecetables.limits import check_limit
from piecetables.reports import check_report
from piecetables.wholes import equations_of

MOST_VARIABLES = 3
MOST_TOTAL = 12


def tables(report):
    """Yield all wholes of a report with the factor 1, ascending."""
    check_report(report)
    check_limit(report.many, MOST_VARIABLES)
    check_limit(report.total, MOST_TOTAL)
    for counts in all_counts(report):
        yield (1, counts)


def all_counts(report):
    """Return the counts of all wholes of a report with the factor 1, ascending."""
    amounts = [count for piece in report.pieces for count in piece.counts]
    equations = list(zip(equations_of(report), amounts))
    begun = [()]
    for place in range(1 << report.many):
        own = [(factors, amount) for factors, amount in equations if factors[place] == 1]
        begun = [counts + (count,) for counts in begun for count in next_counts(own, counts)]
    return begun


def next_counts(equations, counts):
    """Return what the count of the next row behind these ones can be, as its own equations tell, ascending."""
    rests = []
    last_rests = [0]
    for factors, amount in equations:
        rest = amount - sum([factor * count for factor, count in zip(factors, counts)])
        rests.append(rest)
        # The last row of an equation has all that is left of the amount.
        if sum(factors[len(counts) + 1:]) == 0:
            last_rests.append(rest)
    return list(range(max(last_rests), min(rests) + 1))
