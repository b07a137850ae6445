"""Shells and rings, for which a scheme has no steps, and agreeing pieces that have no whole."""

from piecetables.checks import are_integers, is_ascending
from piecetables.pieces import Piece
from piecetables.reports import Report
from piecetables.rows import all_rows, part_sums, place_of
from piecetables.schemes import check_scheme
from piecetables.subsets import sets_below


def knot(scheme):
    """Return ("shell", variables) or ("ring", variables) for the first shell or ring of a scheme, or None."""
    check_scheme(scheme)
    many, groups = scheme
    for variables in sets_below(many):
        if is_shell(groups, variables):
            return ("shell", variables)
        ring = ring_of(groups, variables)
        if ring is not None:
            return ("ring", ring)
    return None


def shows_knot(scheme, thing):
    """Tell whether a value is ("shell", a shell) or ("ring", a ring) of a scheme."""
    check_scheme(scheme)
    if not isinstance(thing, tuple) or len(thing) != 2:
        return False
    word, variables = thing
    if not isinstance(variables, tuple) or not are_integers(variables, len(variables)):
        return False
    if word == "shell":
        return is_ascending(variables) and is_shell(scheme[1], variables)
    return word == "ring" and is_ring(scheme[1], variables)


def trap(scheme):
    """Return a report of a scheme with pieces that agree but have no whole, or None."""
    found = knot(scheme)
    if found is None:
        return None
    many, groups = scheme
    word, variables = found
    if word == "shell":
        counts = shell_counts(many, variables)
        pieces = [Piece(group, part_sums(counts, many, group)) for group in groups]
    else:
        pieces = [Piece(group, ring_counts(group, variables)) for group in groups]
    return Report(many, *pieces)


def are_together(groups, variables):
    """Tell whether some group has all of these variables."""
    return any([all([variable in group for variable in variables]) for group in groups])


def is_shell(groups, variables):
    """Tell whether a set of integers is a shell."""
    if not 3 <= len(variables) <= 4 or are_together(groups, variables):
        return False
    return all([are_together(groups, variables[:at] + variables[at + 1:]) for at in range(len(variables))])


def is_ring(groups, ring):
    """Tell whether a tuple of integers is a ring."""
    size = len(ring)
    if not 4 <= size <= 5:
        return False
    # Nothing asks whether all are different: two equal ones would have the same neighbours, which no ring allows.
    for second in range(size):
        for first in range(second):
            near = second - first == 1 or second - first == size - 1
            if are_together(groups, (ring[first], ring[second])) != near:
                return False
    return True


def ring_of(groups, variables):
    """Return the smallest ring of a set of variables, or None."""
    ring = variables[:1]
    while len(ring) < len(variables):
        ahead = [other for other in variables if other not in ring and are_together(groups, (ring[-1], other))]
        if not ahead:
            return None
        # Of the two neighbours of the smallest variable the smaller one comes next; from then on there is one only.
        ring = ring + (ahead[0],)
    return ring if is_ring(groups, ring) else None


def shell_counts(many, shell):
    """Return the counts of the rows of all variables that have sums for each group, but are not all from 0 on."""
    counts = []
    for row in all_rows(many):
        own = [row[variable] for variable in shell]
        # The sums are equal only if all other variables are 0.
        counts.append(shell_count(own) if sum(own) == sum(row) else 0)
    return counts


def shell_count(row):
    """Return the count of a row of the variables of a shell."""
    if sum(row) == 0:
        return -1
    if sum(row[:3]) == 3:
        return 0
    return sum(row) % 2


def ring_counts(group, ring):
    """Return the counts of a group: all of its variables in a ring are alike, but not the first and the last one."""
    counts = [0] * (1 << len(group))
    for value in range(2):
        row = [value if variable in ring else 0 for variable in group]
        if ring[0] in group and ring[-1] in group:
            row[group.index(ring[0])] = 1 - value
        place = place_of(row)
        counts[place] = counts[place] + 1
    return tuple(counts)
