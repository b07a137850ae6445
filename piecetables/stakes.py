"""Stakes: an integer for each row of each piece of a report."""

from piecetables.checks import are_integers
from piecetables.rows import part_places


def are_stakes(thing, report):
    """Tell whether a value is stakes for the pieces of a report."""
    if not isinstance(thing, tuple) or len(thing) != len(report):
        return False
    return all([are_integers(part, len(piece)) for part, piece in zip(thing, report.pieces)])


def row_gains(report, stakes):
    """Return what each row of all variables brings."""
    gains = [0] * (1 << report.many)
    for part, piece in zip(stakes, report.pieces):
        places = part_places(report.many, piece.variables)
        gains = [gain + part[place] for gain, place in zip(gains, places)]
    return gains


def piece_gains(report, stakes):
    """Return what the pieces bring."""
    gains = 0
    for part, piece in zip(stakes, report.pieces):
        gains = gains + sum([stake * count for stake, count in zip(part, piece.counts)])
    return gains


def stakes_of(report, weights):
    """Return the stakes in which the rows of the pieces have these weights, one after another."""
    stakes = []
    start = 0
    for piece in report.pieces:
        stakes.append(tuple(weights[start:start + len(piece)]))
        start = start + len(piece)
    return tuple(stakes)
