"""Integers without a common divisor."""

from math import gcd


def reduced(numbers):
    """Return numbers, not all of them 0, without their common divisor."""
    divisor = 0
    for number in numbers:
        divisor = gcd(divisor, number)
    return [number // divisor for number in numbers]


def table_of(factor, counts):
    """Return the table of a factor and counts, without a common divisor of them all."""
    numbers = reduced([factor, *counts])
    return (numbers[0], tuple(numbers[1:]))
