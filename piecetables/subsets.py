"""Sets of numbers, which are ascending tuples."""


def sets_below(many):
    """Return all sets of numbers below many, in order: smaller ones before larger ones, then as tuples."""
    found = []
    for mask in range(1 << many):
        found.append(tuple([number for number in range(many) if (mask >> number) & 1]))
    return sorted(found, key=lambda numbers: (len(numbers), numbers))
