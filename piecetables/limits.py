"""Amounts that may not be too great."""

from piecetables.errors import TooMany


def check_limit(amount, limit):
    """Refuse an amount that is greater than its limit."""
    if amount > limit:
        raise TooMany(amount, limit)
