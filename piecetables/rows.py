"""Rows of values, and their places in the order of the rows as tuples."""


def all_rows(many):
    """Return all rows of many variables, in order."""
    return [tuple([(place >> (many - 1 - variable)) & 1 for variable in range(many)]) for place in range(1 << many)]


def place_of(row):
    """Return the place of a row among all rows of its variables."""
    place = 0
    for value in row:
        place = 2 * place + value
    return place


def part_places(many, variables):
    """Return, for each row of many variables, the place of the values that it has of some of them."""
    return [place_of([row[variable] for variable in variables]) for row in all_rows(many)]


def part_sums(counts, many, variables):
    """Add up the counts of the rows of many variables that have the same values of some of them."""
    size = 1 << len(variables)
    sums = [0] * size
    for place, count in zip(part_places(many, variables), counts):
        sums[place] = sums[place] + count
    return tuple(sums)
