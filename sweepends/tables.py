"""Tables of fractions, symmetric and positive ones, and the polynomial of a table."""
from sweepends.checks import require_row
from sweepends.errors import InvalidTable, NotSymmetric
from sweepends.exact import NIL, ONE, dot, is_row, minus, over, plus, times
from sweepends.grids import corner, grid_determinant, grid_form, grid_polynomial, image, multiplied, solved
from sweepends.grids import solved_row, turned_grid, unit_grid

MOST_ROWS = 5


def is_table(value):
    """Whether a value, whatever it is, is a table."""
    if type(value) is not tuple or not 1 <= len(value) <= MOST_ROWS:
        return False
    return all(is_row(len(value), row) for row in value)


def require_table(value):
    if not is_table(value):
        raise InvalidTable(value)


def product(table, other):
    """The table times the other one."""
    require_table(table)
    if not is_table(other) or len(other) != len(table):
        raise InvalidTable(other)
    return multiplied(table, other)


def turned(table):
    """The table turned over, rows for columns."""
    require_table(table)
    return turned_grid(table)


def determinant(table):
    require_table(table)
    return grid_determinant(table)


def inverse(table):
    """The inverse of the table; None if there is none."""
    require_table(table)
    return solved(table, unit_grid(len(table)))


def is_symmetric(table):
    require_table(table)
    return turned_grid(table) == table


def polynomial_of(table):
    """The polynomial det (x * 1 - table), the number of the lowest power first."""
    require_table(table)
    return grid_polynomial(table)


def require_symmetric(table):
    if turned_grid(table) != table:
        raise NotSymmetric()


def is_positive(table):
    """Whether the form of the symmetric table is above 0 at all rows but noughts."""
    require_table(table)
    require_symmetric(table)
    return failing_count(table) is None


def form_at(table, row):
    """The form of the symmetric table at the row."""
    require_table(table)
    require_row(row, len(table))
    require_symmetric(table)
    return grid_form(table, row)


def low_row(table):
    """Any row, not noughts, at which the form of the symmetric table is not above 0; None if the table is positive.

    The form there is below 0 if the table has an inverse.
    """
    require_table(table)
    require_symmetric(table)
    count = failing_count(table)
    if count is None:
        return None
    row = corner_row(table, count)
    found = image(table, row)
    if dot(row, found)[0] < 0:
        return row
    for at, number in enumerate(found):
        if number != NIL:
            return lowered(row, at, number, table[at][at])
    return row


def failing_count(table):
    """The least number of first rows and columns of which the determinant is not above 0; None."""
    for count in range(1, len(table) + 1):
        if grid_determinant(corner(table, count))[0] <= 0:
            return count
    return None


def corner_row(table, count):
    """A row with 1 in the last place of a corner and noughts behind it; the table makes 0 of it in all earlier places.

    The form there is the determinant of the corner over that of the corner with one row less.
    """
    before = count - 1
    rights = [minus(NIL, row[before]) for row in table[:before]]
    return solved_row(corner(table, before), rights) + (ONE,) + (NIL,) * (len(table) - count)


def lowered(row, at, number, along):
    """A row with the form -1, made of one with the form 0 that has 0 in a place where the table makes a number of it.

    The number is not 0; along is what stands along the table in that place.
    """
    # With t times the row and 1 in the place the form is 2 * t * number + along.
    share = over(minus(NIL, plus(along, ONE)), times((2, 1), number))
    return tuple([ONE if k == at else times(share, part) for k, part in enumerate(row)])
