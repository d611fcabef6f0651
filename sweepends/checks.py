"""Checks of arguments that several modules share, each with the error that it raises."""
from sweepends.errors import InvalidAmounts, InvalidFraction, InvalidNumber, InvalidRow
from sweepends.exact import is_amount, is_fraction

MOST_MANY = 1000000


def require_number(value, low, high):
    """A whole number from low up to high."""
    if type(value) is not int or value < low or value > high:
        raise InvalidNumber(value)


def require_row(value, size):
    """A row of so many fractions."""
    if type(value) is not tuple or len(value) != size:
        raise InvalidRow(None)
    for index, part in enumerate(value):
        if not is_fraction(part):
            raise InvalidRow(index)


def require_many(value):
    """A number of parts of 1 in which something is told near."""
    require_number(value, 1, MOST_MANY)


def require_fraction(value):
    if not is_fraction(value):
        raise InvalidFraction(value)


def require_amount(value):
    """A fraction above 0."""
    if not is_amount(value):
        raise InvalidFraction(value)


def require_amounts(value, size):
    """A row of so many fractions above 0."""
    if type(value) is not tuple or len(value) != size:
        raise InvalidAmounts(None)
    for index, part in enumerate(value):
        if not is_amount(part):
            raise InvalidAmounts(index)
