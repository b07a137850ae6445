"""Tests of plain values: integers, groups of variables, rows, counts and tables."""


def is_integer(thing):
    """Tell whether a value is an int that is not a bool."""
    return isinstance(thing, int) and not isinstance(thing, bool)


def is_between(thing, low, high):
    """Tell whether a value is an integer from low to high."""
    return is_integer(thing) and low <= thing <= high


def are_integers(thing, size):
    """Tell whether a value is a tuple of this many integers."""
    return isinstance(thing, tuple) and len(thing) == size and all([is_integer(part) for part in thing])


def is_ascending(numbers):
    """Tell whether each number is greater than the one before it."""
    return all([numbers[place - 1] < numbers[place] for place in range(1, len(numbers))])


def is_group(thing, many):
    """Tell whether a value is a set of one to three of many variables."""
    if not isinstance(thing, tuple) or not 1 <= len(thing) <= 3:
        return False
    return all([is_between(part, 0, many - 1) for part in thing]) and is_ascending(thing)


def is_row(thing, size):
    """Tell whether a value is a row of this many variables."""
    return are_integers(thing, size) and all([0 <= value <= 1 for value in thing])


def are_counts(thing, size, limit):
    """Tell whether a value is a tuple of this many integers from 0 on with a sum from 1 to limit."""
    return are_integers(thing, size) and min(thing) >= 0 and 1 <= sum(thing) <= limit


def is_table(thing, many):
    """Tell whether a value is a table for many variables."""
    if not isinstance(thing, tuple) or len(thing) != 2:
        return False
    factor, counts = thing
    return is_integer(factor) and factor >= 1 and are_integers(counts, 1 << many) and min(counts) >= 0
