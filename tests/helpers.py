"""What several tests need: strange values, and slow but plain checks of answers."""

import random
from itertools import product

from piecetables import errors
from piecetables.pieces import Piece
from piecetables.reports import Report

UNLIKE = (0, 1, 1, 0)
ALIKE = (1, 0, 0, 1)


def nested(depth, core):
    for _ in range(depth):
        core = (core,)
    return core


def strange_values():
    """Return new values of every kind that the document calls any value."""
    piece = Piece((0, 1), (1, 2, 3, 4))
    report = Report(2, piece)
    return [
        None, True, False, 0, 1, -1, 2, 5, 6, 1000, 1001, 10 ** 12, -(10 ** 12),
        "", "0", "01", "a text", "variables 2\n", "\n",
        [], [0], [0, 1], [[0, 1]], (), (0,), (1,), (0, 1), (0, 1, 2), (0, 0), (1, 0), ((0, 1),), (None,), (True,),
        (False, True), (True, False, True), ("0", "1"), ([0], [1]), ({},), ((), ()), (0, (1, 2)), (1, (0, 1, 2, 3)),
        {}, {0: 1}, {"variables": (0, 1), "counts": (1, 2, 3, 4)}, {(0, 1): (1, 2, 3, 4)},
        piece, report, (piece,), [report], {0: piece}, (1, piece), ((piece, report), None),
        errors.PieceError("a message"), errors.NoPiece(), errors.TooMany(6, 5), errors.Lost((1, 2)),
        errors.Disagree(0, 1), nested(19, 1), nested(19, piece), nested(19, True),
        tuple(range(8000 - 1)), list(range(8000 - 1)), (0,) * 7999, ((0, 1),) * 2000, {k: k for k in range(3999)},
    ]


def rows(size):
    """Return all rows of this many variables, in order."""
    return list(product((0, 1), repeat=size))


def part(row, variables):
    return tuple(row[variable] for variable in variables)


def sums(many, counts, variables):
    """Add up the counts of the rows of many variables that are alike in some of them."""
    return tuple(
        sum(count for row, count in zip(rows(many), counts) if part(row, variables) == wanted)
        for wanted in rows(len(variables))
    )


def report_of(many, counts, *groups):
    """Return the report that a table of these counts gives for the groups."""
    return Report(many, *[Piece(group, sums(many, counts, group)) for group in groups])


def is_int(thing):
    return type(thing) is int


def is_whole(report, thing):
    """Tell, row by row, whether a value is a whole."""
    if type(thing) is not tuple or len(thing) != 2 or not is_int(thing[0]) or type(thing[1]) is not tuple:
        return False
    factor, counts = thing
    if factor < 1 or len(counts) != 2 ** report.many or not all(is_int(count) and count >= 0 for count in counts):
        return False
    return all(
        sums(report.many, counts, piece.variables) == tuple(factor * count for count in piece.counts)
        for piece in report.pieces
    )


def brings(report, stakes, row):
    """Return what a row of all variables brings."""
    total = 0
    for stake, piece in zip(stakes, report.pieces):
        total += dict(zip(rows(len(piece.variables)), stake))[part(row, piece.variables)]
    return total


def is_bet(report, thing):
    """Tell, row by row, whether a value is a bet."""
    if type(thing) is not tuple or len(thing) != len(report.pieces):
        return False
    for stake, piece in zip(thing, report.pieces):
        if type(stake) is not tuple or len(stake) != len(piece.counts) or not all(is_int(one) for one in stake):
            return False
    gain = sum(
        one * count for stake, piece in zip(thing, report.pieces) for one, count in zip(stake, piece.counts)
    )
    return gain < 0 and all(brings(report, thing, row) >= 0 for row in rows(report.many))


def variants(value):
    """Yield values that differ a little from a value of integers and tuples."""
    yield from (None, [value], (value,), {0: value}, str(value))
    if is_int(value):
        yield from (value + 1, value - 1, -value, 2 * value, bool(value), value == 1)
        return
    yield list(value)
    yield dict(enumerate(value))
    yield value + value
    yield value[::-1]
    for more in (0, 1, True, None, (), value[:1], value[-1]):
        yield value + (more,)
        yield (more,) + value
    for at, inner in enumerate(value):
        yield value[:at] + value[at + 1:]
        yield value[:at] + (inner, inner) + value[at + 1:]
        yield value[:at] + value[at + 1:at + 2] + (inner,) + value[at + 2:]
        for changed in variants(inner):
            yield value[:at] + (changed,) + value[at + 1:]


def groups(many):
    """Return all groups of many variables, in order."""
    found = [
        tuple(variable for variable, here in enumerate(row) if here) for row in rows(many) if 1 <= sum(row) <= 3
    ]
    return sorted(found, key=lambda group: (len(group), group))


def random_counts(chance, many):
    """Return the counts of a table with a total from 1 to 1,000, often with many zeros."""
    most = chance.choice([1, 3, 1000 // 2 ** many])
    holes = chance.choice([0, 0.3, 0.7])
    counts = [0 if chance.random() < holes else chance.randint(0, most) for _ in range(2 ** many)]
    counts[chance.randrange(2 ** many)] += 1
    if sum(counts) > 1000:
        return random_counts(chance, many)
    return tuple(counts)


def random_report(chance):
    """Return a report of a table."""
    many = chance.randint(1, 5)
    chosen = [chance.choice(groups(many)) for _ in range(chance.randint(1, 5))]
    return report_of(many, random_counts(chance, many), *chosen)


def twisted(chance, piece):
    """Return a piece that has the same parts, but another count of the rows with an odd number of ones."""
    signs = [1 if sum(row) % 2 else -1 for row in rows(len(piece.variables))]
    lowest = -min(count for count, sign in zip(piece.counts, signs) if sign > 0)
    highest = min(count for count, sign in zip(piece.counts, signs) if sign < 0)
    shift = chance.choice([lowest, highest, chance.randint(lowest, highest)])
    return Piece(piece.variables, tuple(count + sign * shift for count, sign in zip(piece.counts, signs)))


def chance(seed):
    return random.Random(seed)
