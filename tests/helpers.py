"""What several tests need: strange values, and slow but plain checks of answers."""

import random
from fractions import Fraction
from itertools import combinations, combinations_with_replacement, permutations, product

from piecetables import errors
from piecetables.ledgers import Agreeing, Ledger, Loose
from piecetables.pieces import Piece
from piecetables.reports import Report
from piecetables.wholes import whole

UNLIKE = (0, 1, 1, 0)
ALIKE = (1, 0, 0, 1)


def nested(depth, core):
    for _ in range(depth):
        core = (core,)
    return core


def strange_values():
    """Return new values of every kind that the document calls any value."""
    piece = Piece((0, 1), (1, 2, 3, 4))
    report = Report(2, piece)
    ledger = Ledger(2, 10)
    ledger.take(piece)
    return [
        None, True, False, 0, 1, -1, 2, 5, 6, 1000, 1001, 10 ** 12, -(10 ** 12),
        "", "0", "01", "a text", "variables 2\n", "\n",
        [], [0], [0, 1], [[0, 1]], (), (0,), (1,), (0, 1), (0, 1, 2), (0, 0), (1, 0), ((0, 1),), (None,), (True,),
        (False, True), (True, False, True), ("0", "1"), ([0], [1]), ({},), ((), ()), (0, (1, 2)), (1, (0, 1, 2, 3)),
        {}, {0: 1}, {"variables": (0, 1), "counts": (1, 2, 3, 4)}, {(0, 1): (1, 2, 3, 4)},
        piece, report, (piece,), [report], {0: piece}, (1, piece), ((piece, report), None),
        errors.PieceError("a message"), errors.NoPiece(), errors.TooMany(6, 5), errors.Lost((1, 2)),
        errors.Disagree(0, 1), ledger, Ledger(3, 8), Agreeing(2, 10), Loose(1, 1), ledger.trying(), (ledger,),
        [ledger, report], {0: ledger}, {"pieces": [piece, (ledger, None)]}, nested(19, ledger),
        nested(19, 1), nested(19, piece), nested(19, True),
        tuple(range(8000 - 1)), list(range(8000 - 1)), (0,) * 7999, ((0, 1),) * 2000, {k: k for k in range(3999)},
    ]


def rows(size):
    """Return all rows of this many variables, in order."""
    return list(product((0, 1), repeat=size))


def part(row, variables):
    return tuple(row[variable] for variable in variables)


def sums(many, counts, variables):
    """Add up the counts of the rows of many variables that are alike in some of them."""
    return tuple(
        sum(count for row, count in zip(rows(many), counts) if part(row, variables) == wanted)
        for wanted in rows(len(variables))
    )


def report_of(many, counts, *groups):
    """Return the report that a table of these counts gives for the groups."""
    return Report(many, *[Piece(group, sums(many, counts, group)) for group in groups])


def is_int(thing):
    return type(thing) is int


def is_whole(report, thing):
    """Tell, row by row, whether a value is a whole."""
    if type(thing) is not tuple or len(thing) != 2 or not is_int(thing[0]) or type(thing[1]) is not tuple:
        return False
    factor, counts = thing
    if factor < 1 or len(counts) != 2 ** report.many or not all(is_int(count) and count >= 0 for count in counts):
        return False
    return all(
        sums(report.many, counts, piece.variables) == tuple(factor * count for count in piece.counts)
        for piece in report.pieces
    )


def brings(report, stakes, row):
    """Return what a row of all variables brings."""
    total = 0
    for stake, piece in zip(stakes, report.pieces):
        total += dict(zip(rows(len(piece.variables)), stake))[part(row, piece.variables)]
    return total


def is_bet(report, thing):
    """Tell, row by row, whether a value is a bet."""
    if not is_stakes(report, thing) or pieces_bring(report, thing) >= 0:
        return False
    return all(brings(report, thing, row) >= 0 for row in rows(report.many))


def fits(row, pattern):
    """Tell whether a row fits a pattern."""
    return all(wanted is None or wanted == value for value, wanted in zip(row, pattern))


def share(report, table, pattern):
    """Return the share of a pattern in a table."""
    return Fraction(sum(count for row, count in zip(rows(report.many), table[1]) if fits(row, pattern)), table[0])


def is_stakes(report, thing):
    """Tell whether a value is stakes for the pieces of a report."""
    if type(thing) is not tuple or len(thing) != len(report.pieces):
        return False
    return all(
        type(stake) is tuple and len(stake) == len(piece.counts) and all(is_int(one) for one in stake)
        for stake, piece in zip(thing, report.pieces)
    )


def pieces_bring(report, stakes):
    """Return what the pieces bring."""
    return sum(
        one * count for stake, piece in zip(stakes, report.pieces) for one, count in zip(stake, piece.counts)
    )


def is_bound(report, pattern, thing):
    """Tell, row by row, of what least and greatest may return for a pattern, which of them may return a value."""
    if type(thing) is not tuple or len(thing) != 3:
        return (False, False)
    table, stakes, unit = thing
    if not is_whole(report, table) or not is_stakes(report, stakes) or not is_int(unit) or unit < 1:
        return (False, False)
    exact = pieces_bring(report, stakes) == unit * share(report, table, pattern)
    limits = [(brings(report, stakes, row), unit if fits(row, pattern) else 0) for row in rows(report.many)]
    return (
        exact and all(gain <= limit for gain, limit in limits), exact and all(gain >= limit for gain, limit in limits),
    )


def variants(value):
    """Yield values that differ a little from a value of integers, None, texts and tuples."""
    yield from (None, [value], (value,), {0: value}, str(value))
    if is_int(value):
        yield from (value + 1, value - 1, -value, 2 * value, bool(value), value == 1)
        return
    if value is None or type(value) is str:
        yield from (0, 1, 2, True, False, "", "None", f"{value} ", f"{value}s")
        return
    yield list(value)
    yield dict(enumerate(value))
    yield value + value
    yield value[::-1]
    for more in (0, 1, True, None, (), value[:1], *value[-1:]):
        yield value + (more,)
        yield (more,) + value
    for at, inner in enumerate(value):
        yield value[:at] + value[at + 1:]
        yield value[:at] + (inner, inner) + value[at + 1:]
        yield value[:at] + value[at + 1:at + 2] + (inner,) + value[at + 2:]
        for changed in variants(inner):
            yield value[:at] + (changed,) + value[at + 1:]


def groups(many):
    """Return all groups of many variables, in order."""
    found = [
        tuple(variable for variable, here in enumerate(row) if here) for row in rows(many) if 1 <= sum(row) <= 3
    ]
    return sorted(found, key=lambda group: (len(group), group))


def schemes(many, most):
    """Return all schemes of many variables with at most so many groups, in each order that the groups can have."""
    return [(many, chosen) for size in range(1, most + 1) for chosen in product(groups(many), repeat=size)]


def scheme_sets(many, most):
    """Return all schemes of many variables with at most so many groups, in one order of the groups."""
    return [
        (many, chosen) for size in range(1, most + 1)
        for chosen in combinations_with_replacement(groups(many), size)
    ]


def random_scheme(chance):
    many = chance.randint(1, 5)
    return (many, tuple(chance.choice(groups(many)) for _ in range(chance.randint(1, 5))))


def is_step(chosen, left, one, other):
    """Tell whether a group can be taken away, with another one as its partner, while these numbers are left."""
    if one == other or one not in left or other not in left:
        return False
    elsewhere = set().union(*[chosen[number] for number in left if number != one])
    return set(chosen[one]) & elsewhere <= set(chosen[other])


def all_steps(chosen, left=None):
    """Yield all steps of groups, in order."""
    left = set(range(len(chosen))) if left is None else left
    if len(left) == 1:
        yield ()
    for one, other in permutations(sorted(left), 2):
        if is_step(chosen, left, one, other):
            for more in all_steps(chosen, left - {one}):
                yield ((one, other),) + more


def is_together(chosen, variables):
    return any(set(variables) <= set(group) for group in chosen)


def is_shell(chosen, thing):
    """Tell whether a value is a shell of groups."""
    if type(thing) is not tuple or len(thing) not in (3, 4) or not all(is_int(variable) for variable in thing):
        return False
    if sorted(set(thing)) != list(thing) or is_together(chosen, thing):
        return False
    return all(is_together(chosen, set(thing) - {variable}) for variable in thing)


def is_ring(chosen, thing):
    """Tell whether a value is a ring of groups."""
    if type(thing) is not tuple or len(thing) not in (4, 5) or not all(is_int(variable) for variable in thing):
        return False
    edges = {frozenset(pair) for pair in zip(thing, thing[1:] + thing[:1])}
    return len(set(thing)) == len(thing) and all(
        is_together(chosen, pair) == (frozenset(pair) in edges) for pair in combinations(thing, 2)
    )


def first_knot(many, chosen):
    """Return what knot is to return, by a look at all sets in all arrangements."""
    for size in (3, 4, 5):
        for variables in combinations(range(many), size):
            if is_shell(chosen, variables):
                return ("shell", variables)
            for ring in permutations(variables):
                if is_ring(chosen, ring):
                    return ("ring", ring)
    return None


def has_whole(report):
    """Tell whether a report has a whole, after a look, row by row, at what shows it."""
    word, shown = whole(report)
    if not (is_whole(report, shown) if word == "whole" else word == "bet" and is_bet(report, shown)):
        raise AssertionError(f"a wrong answer for {report.text()}")
    return word == "whole"


def random_piece(chance, group, total):
    """Return a piece of a group, whatever other pieces say."""
    counts = [0] * 2 ** len(group)
    allowed = chance.choice([range(len(counts)), chance.sample(range(len(counts)), 2)])
    for _ in range(total):
        counts[chance.choice(allowed)] += 1
    return Piece(group, tuple(counts))


def tuples_of(size, total):
    """Return all tuples of so many integers from 0 on with a sum, ascending."""
    if size == 1:
        return [(total,)]
    return [(first, *more) for first in range(total + 1) for more in tuples_of(size - 1, total - first)]


def random_counts(chance, many):
    """Return the counts of a table with a total from 1 to 1,000, often with many zeros."""
    most = chance.choice([1, 3, 1000 // 2 ** many])
    holes = chance.choice([0, 0.3, 0.7])
    counts = [0 if chance.random() < holes else chance.randint(0, most) for _ in range(2 ** many)]
    counts[chance.randrange(2 ** many)] += 1
    if sum(counts) > 1000:
        return random_counts(chance, many)
    return tuple(counts)


def random_report(chance):
    """Return a report of a table."""
    many = chance.randint(1, 5)
    chosen = [chance.choice(groups(many)) for _ in range(chance.randint(1, 5))]
    return report_of(many, random_counts(chance, many), *chosen)


def twisted(chance, piece):
    """Return a piece that has the same parts, but another count of the rows with an odd number of ones."""
    signs = [1 if sum(row) % 2 else -1 for row in rows(len(piece.variables))]
    lowest = -min(count for count, sign in zip(piece.counts, signs) if sign > 0)
    highest = min(count for count, sign in zip(piece.counts, signs) if sign < 0)
    shift = chance.choice([lowest, highest, chance.randint(lowest, highest)])
    return Piece(piece.variables, tuple(count + sign * shift for count, sign in zip(piece.counts, signs)))


def chance(seed):
    return random.Random(seed)
