"""Fractions, rows of them and whole-number rows behind them, without checks of arguments."""
from math import gcd, lcm

NIL = (0, 1)
ONE = (1, 1)


def is_fraction(value):
    """Whether a value, whatever it is, is a fraction."""
    if type(value) is not tuple or len(value) != 2:
        return False
    number, divisor = value
    if type(number) is not int or type(divisor) is not int:
        return False
    return divisor > 0 and gcd(number, divisor) == 1


def is_row(size, value):
    """Whether a value, whatever it is, is a row of so many fractions."""
    if type(value) is not tuple or len(value) != size:
        return False
    return all(is_fraction(part) for part in value)


def is_amount(value):
    """Whether a value, whatever it is, is a fraction above 0."""
    return is_fraction(value) and value[0] > 0


def are_amounts(size, value):
    """Whether a value, whatever it is, is a row of so many fractions above 0."""
    return is_row(size, value) and all(number > 0 for number, _ in value)


def are_contents(size, value):
    """Whether a value, whatever it is, is a row of so many fractions from 0 on, not all of them 0."""
    return is_row(size, value) and all(number >= 0 for number, _ in value) and not are_noughts(value)


def are_noughts(row):
    return all(part == NIL for part in row)


def reduced(number, divisor):
    """The fraction number / divisor; the divisor may be below 0."""
    common = gcd(number, divisor)
    if divisor < 0:
        common = -common
    return number // common, divisor // common


def plus(first, second):
    return reduced(first[0] * second[1] + second[0] * first[1], first[1] * second[1])


def minus(first, second):
    return reduced(first[0] * second[1] - second[0] * first[1], first[1] * second[1])


def times(first, second):
    return reduced(first[0] * second[0], first[1] * second[1])


def over(first, second):
    """The first fraction divided by the second one, which is not 0."""
    return reduced(first[0] * second[1], first[1] * second[0])


def size_of(part):
    """How far a fraction is from 0."""
    return abs(part[0]), part[1]


def is_above(first, second):
    return first[0] * second[1] > second[0] * first[1]


def greatest(parts):
    """The greatest of one or more fractions."""
    found = parts[0]
    for part in parts[1:]:
        if is_above(part, found):
            found = part
    return found


def row_times(row, factor):
    return tuple([times(part, factor) for part in row])


def rows_plus(row, other):
    return tuple([plus(first, second) for first, second in zip(row, other)])


def rows_minus(row, other):
    return tuple([minus(first, second) for first, second in zip(row, other)])


def whole_row(row):
    """The whole numbers and the one divisor that make a row of fractions."""
    divisor = 1
    for _, part in row:
        divisor = lcm(divisor, part)
    return [number * (divisor // part) for number, part in row], divisor


def whole_dot(numbers, others):
    return sum([number * other for number, other in zip(numbers, others)])


def dot(row, other):
    """The sum of the products of two rows."""
    # Whole rows need one reduction where sums of fractions need one for each term.
    numbers, divisor = whole_row(row)
    others, share = whole_row(other)
    return reduced(whole_dot(numbers, others), divisor * share)
