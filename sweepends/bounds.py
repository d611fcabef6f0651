"""Tables within bounds: what holds for all of them, whatever their numbers are."""
from sweepends.checks import require_row
from sweepends.errors import InvalidBounds, InvalidRow, NotPositive
from sweepends.exact import greatest, is_above, is_fraction
from sweepends.grids import solved_row
from sweepends.inverses import is_turned_positive
from sweepends.lifts import boxing_row, sizes_of
from sweepends.tables import is_table


def is_bounds(value):
    """Whether a value, whatever it is, is a pair of bounds."""
    if type(value) is not tuple or len(value) != 2:
        return False
    low, high = value
    return is_table(low) and is_table(high) and len(low) == len(high) and is_nowhere_above(low, high)


def is_nowhere_above(grid, other):
    """Whether no number of a grid is above that of the other one in its place."""
    return not any(is_above(part, beside) for row, line in zip(grid, other) for part, beside in zip(row, line))


def require_bounds(value):
    if not is_bounds(value):
        raise InvalidBounds(value)


def are_inverses_positive(bounds):
    """Whether all tables within the bounds are inverse positive."""
    require_bounds(bounds)
    return failing_bound(bounds) is None


def failing_table(bounds):
    """Any table within the bounds that is not inverse positive; None."""
    require_bounds(bounds)
    return failing_bound(bounds)


def failing_bound(bounds):
    """That of both bounds that is not inverse positive; None, as then all tables within are (Kuttler)."""
    for grid in bounds:
        if not is_turned_positive(grid):
            return grid
    return None


def require_row_from(value, low):
    """A row of as many fractions as a lower one has, none of them below its number."""
    if type(value) is not tuple or len(value) != len(low):
        raise InvalidRow(None)
    for index, (part, least) in enumerate(zip(value, low)):
        if not is_fraction(part) or is_above(least, part):
            raise InvalidRow(index)


def solution_range(bounds, low, high):
    """The least and the greatest numbers of all solutions with right sides from low up to high; None if not told."""
    require_bounds(bounds)
    require_row(low, len(bounds[0]))
    require_row_from(high, low)
    if failing_bound(bounds) is not None:
        raise NotPositive()
    least, most = bounds
    # No inverse has a number below 0, that of the lower bound has the greatest ones.
    if all(number >= 0 for number, _ in low):
        return solved_row(most, low), solved_row(least, high)
    if all(number <= 0 for number, _ in high):
        return solved_row(least, low), solved_row(most, high)
    if all(number <= 0 for number, _ in low) and all(number >= 0 for number, _ in high):
        return solved_row(least, low), solved_row(least, high)
    return None


def late_amounts_within(bounds):
    """Any boxing amounts for the table of the greater sizes of the numbers of both bounds; None."""
    require_bounds(bounds)
    low, high = bounds
    return boxing_row(tuple([tuple([greatest(pair) for pair in zip(row, line)])
                             for row, line in zip(sizes_of(low), sizes_of(high))]))
