"""Numbers in texts."""

from piecetables.errors import NoText

# No number in the text of a report has more digits.
MOST_DIGITS = 4


def spaced(numbers):
    """Write numbers with single spaces between them."""
    return " ".join([str(number) for number in numbers])


def number_in(word):
    """Return the number that a word of digits is."""
    if not word.isascii() or not word.isdigit() or len(word) > MOST_DIGITS:
        raise NoText("a number is needed")
    return int(word)


def numbers_in(text):
    """Return the numbers in a text that has single spaces between them."""
    return tuple([number_in(word) for word in text.split(" ")])
