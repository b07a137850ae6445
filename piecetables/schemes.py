"""Schemes: how many variables there are, and the groups of them that pieces tell of."""

from piecetables.checks import are_integers, is_between, is_group
from piecetables.errors import NoScheme
from piecetables.reports import Report


def is_scheme(thing):
    """Tell whether a value is a scheme."""
    if not isinstance(thing, tuple) or len(thing) != 2:
        return False
    many, groups = thing
    if not is_between(many, 1, Report.LIMIT) or not isinstance(groups, tuple):
        return False
    return 1 <= len(groups) <= Report.LIMIT and all([is_group(group, many) for group in groups])


def steps(scheme):
    """Return the steps of a scheme, each one the smallest pair possible, or None."""
    check_scheme(scheme)
    groups = scheme[1]
    left = list(range(len(groups)))
    taken = []
    while len(left) > 1:
        step = first_step(groups, left)
        if step is None:
            return None
        taken.append(step)
        left.remove(step[0])
    return tuple(taken)


def shows_steps(scheme, thing):
    """Tell whether a value is steps of a scheme."""
    check_scheme(scheme)
    groups = scheme[1]
    if not isinstance(thing, tuple) or len(thing) != len(groups) - 1:
        return False
    left = list(range(len(groups)))
    for step in thing:
        if not are_integers(step, 2) or not is_step(groups, left, step):
            return False
        left.remove(step[0])
    return True


def check_scheme(thing):
    """Refuse what is not a scheme."""
    if not is_scheme(thing):
        raise NoScheme("a number of variables and a tuple of groups of them are needed")


def first_step(groups, left):
    """Return the smallest pair that is a step, or None."""
    for one in left:
        for other in left:
            if is_step(groups, left, (one, other)):
                return (one, other)
    return None


def is_step(groups, left, pair):
    """Tell whether a pair of integers is a step while the groups of these numbers are left."""
    one, other = pair
    if one == other or one not in left or other not in left:
        return False
    elsewhere = [variable for number in left if number != one for variable in groups[number]]
    return all([variable in groups[other] for variable in groups[one] if variable in elsewhere])
