"""Rows of values, known by their places in the order of the rows as tuples."""


def place_of(row):
    """Return the place of a row among all rows of its variables."""
    place = 0
    for value in row:
        place = 2 * place + value
    return place


def part_place(place, many, variables):
    """Return the place of the values that the row at a place, of many variables, has of some of them."""
    return place_of([(place >> (many - 1 - variable)) & 1 for variable in variables])


def part_places(many, variables):
    """Return what part_place says of each row of many variables, in order."""
    return [part_place(place, many, variables) for place in range(1 << many)]


def part_sums(counts, many, variables):
    """Add up the counts of the rows of many variables that have the same values of some of them."""
    size = 1 << len(variables)
    sums = [0] * size
    for place, count in zip(part_places(many, variables), counts):
        sums[place] = sums[place] + count
    return tuple(sums)
