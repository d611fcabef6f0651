"""Least residuals: the guesses with the least squares, the rows of these squares, and tables for each such row."""
from sweepends.checks import require_amounts, require_number, require_row
from sweepends.errors import InvalidPolynomial, InvalidRow, NoInverse
from sweepends.exact import NIL, ONE, dot, is_above, is_fraction, is_row, minus, row_times, rows_minus, rows_plus, times
from sweepends.grids import grid_determinant, image, least_of, turned_grid, unit_row
from sweepends.spans import combined, shares_at
from sweepends.tables import MOST_ROWS, failing_count, low_row, require_table

MOST_COUNT = 5


def require_inverse(table):
    if grid_determinant(table) == NIL:
        raise NoInverse()


def require_system(table, right, amounts):
    """A table with an inverse, a right side and amounts for as many unknowns."""
    require_table(table)
    require_row(right, len(table))
    require_amounts(amounts, len(table))
    require_inverse(table)


def weighted(row, amounts):
    """The row with each number times its amount."""
    return tuple([times(part, amount) for part, amount in zip(row, amounts)])


def least_run(table, right, amounts):
    """The least guesses, from noughts up to the solution."""
    require_system(table, right, amounts)
    ways = ways_of(table, right)
    return tuple([combined(shares, ways, len(table)) for shares in least_shares(ways, amounts)])


def falling_row(table, right, amounts):
    """The squares of the residuals of the least guesses."""
    require_system(table, right, amounts)
    return squares_of_residuals(table, right, amounts)


def squares_of_residuals(table, right, amounts):
    ways, found = ways_of(table, right), []
    for shares in least_shares(ways, amounts):
        left = rows_minus(right, combined(shares, ways[1:], len(table)))
        found.append(dot(weighted(left, amounts), left))
    return tuple(found)


def ways_of(table, right):
    """The right side, what the table makes of it, of that, and so on, as often as the right side has degree."""
    ways = [right]
    for _ in range(len(least_of(table, right)) - 1):
        ways.append(image(table, ways[-1]))
    return ways


def least_shares(ways, amounts):
    """For each least guess what each way, the last one left out, is taken times in it."""
    found = []
    for count in range(len(ways)):
        # The table leads each way to the next one; the least residual is at right angles to these, with the amounts.
        reached = ways[1:count + 1]
        found.append(shares_at(reached, [weighted(row, amounts) for row in reached], ways[0]))
    return found


def standing_steps(table, right, amounts):
    """The numbers of the steps that stand still."""
    squares = falling_row(table, right, amounts)
    return tuple([at for at in range(1, len(squares)) if squares[at] == squares[at - 1]])


def never_stands(table, amounts):
    """Whether no step stands still for all right sides."""
    require_table(table)
    require_amounts(amounts, len(table))
    require_inverse(table)
    return is_never_standing(table, amounts)


def is_never_standing(table, amounts):
    leaning = leaning_table(table, amounts)
    return failing_count(leaning) is None or failing_count(opposite(leaning)) is None


def leaning_table(table, amounts):
    """The symmetric table whose form at a row x is twice x . W A x."""
    rows = [row_times(row, amount) for row, amount in zip(table, amounts)]
    return tuple([rows_plus(row, column) for row, column in zip(rows, turned_grid(rows))])


def opposite(table):
    """The table with the other sign throughout."""
    return tuple([row_times(row, (-1, 1)) for row in table])


def standing_rows(table, amounts):
    """Any two rows, none of noughts, with x . W A x at most 0 and at least 0; None if no step ever stands still."""
    if never_stands(table, amounts):
        return None
    leaning = leaning_table(table, amounts)
    return low_row(leaning), low_row(opposite(leaning))


def stays_for_ever(table, right, amounts, count):
    """Whether the guess stays noughts if the steps are begun anew behind every so many of them."""
    require_table(table)
    require_row(right, len(table))
    require_amounts(amounts, len(table))
    require_number(count, 1, MOST_COUNT)
    require_inverse(table)
    squares = squares_of_residuals(table, right, amounts)
    return squares[min(count, len(squares) - 1)] == squares[0]


def table_for(squares, polynomial):
    """Any table with this polynomial, right side and amounts with just this falling row."""
    require_squares(squares)
    require_polynomial(polynomial, len(squares) - 1)
    falls = [minus(square, following) for square, following in zip(squares, squares[1:])]
    right = tuple([NIL if part == NIL else ONE for part in falls])
    amounts = tuple([ONE if part == NIL else part for part in falls])
    return table_leading(right, polynomial), right, amounts


def require_squares(value):
    """A row of two to six fractions that never rises, above 0 but for the last one, which is 0."""
    if type(value) is not tuple or not 2 <= len(value) <= MOST_ROWS + 1:
        raise InvalidRow(None)
    for index, part in enumerate(value):
        if not is_fraction(part) or (index > 0 and is_above(part, value[index - 1])):
            raise InvalidRow(index)
        is_last = index == len(value) - 1
        if (is_last and part != NIL) or (not is_last and part[0] <= 0):
            raise InvalidRow(index)


def require_polynomial(value, degree):
    """A polynomial of this degree with the lead 1 and a first number other than 0."""
    if not is_row(degree + 1, value) or value[-1] != ONE or value[0] == NIL:
        raise InvalidPolynomial(value)


def table_leading(right, polynomial):
    """The table that leads the right side, its last number 1, on over the unit rows, as the polynomial asks."""
    size = len(right)
    ways = [right] + [unit_row(size, at) for at in range(size - 1)]
    # The table leads each way to the next one, and the last of them to what makes the polynomial of all of them 0.
    ways.append(row_times(combined(polynomial[:-1], ways, size), (-1, 1)))
    # The last unit row is the right side less those of the others that it has.
    columns = ways[2:] + [rows_minus(ways[1], combined(right, ways[2:], size))]
    return turned_grid(columns)
