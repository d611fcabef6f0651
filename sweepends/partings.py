"""Partings of a table and the steps that they make."""
from sweepends.checks import require_number, require_row
from sweepends.errors import InvalidParting, NoInverse
from sweepends.exact import NIL, plus, reduced, rows_minus, rows_plus, whole_dot, whole_row
from sweepends.grids import grid_determinant, grid_minus, grid_polynomial, image, solved, solved_row, whole_grid
from sweepends.tables import is_table, require_table

MOST_STEPS = 40


def is_parting(value):
    """Whether a value, whatever it is, is a parting."""
    if type(value) is not tuple or len(value) != 2:
        return False
    table, split = value
    if not is_table(table) or not is_table(split) or len(table) != len(split):
        return False
    return grid_determinant(table) != NIL and grid_determinant(split) != NIL


def require_parting(value):
    if not is_parting(value):
        raise InvalidParting(value)


def error_table(parting):
    """The table T = M^-1 N that a step applies to each error."""
    require_parting(parting)
    return errors_of(parting)


def errors_of(parting):
    table, split = parting
    return solved(split, grid_minus(split, table))


def error_polynomial(parting):
    """The polynomial of the error table."""
    return grid_polynomial(errors_of(parting))


def solution(table, right):
    """The one row x with A x = b."""
    require_table(table)
    require_row(right, len(table))
    found = solved_row(table, right)
    if found is None:
        raise NoInverse()
    return found


def residual(table, right, guess):
    """The row b - A x, also of a table without an inverse."""
    require_table(table)
    require_row(right, len(table))
    require_row(guess, len(table))
    return rows_minus(right, image(table, guess))


def require_start(parting, right, guess):
    """A parting with a right side and a guess of as many unknowns."""
    require_parting(parting)
    require_row(right, len(parting[0]))
    require_row(guess, len(parting[0]))


def step(parting, right, guess):
    """The guess M^-1 (N x + b) that a step makes of the guess x."""
    require_start(parting, right, guess)
    table, split = parting
    return solved_row(split, rows_plus(image(grid_minus(split, table), guess), right))


def run(parting, right, guess, count):
    """The guess behind so many steps."""
    require_start(parting, right, guess)
    require_number(count, 0, MOST_STEPS)
    found = solved_row(parting[0], right)
    # The errors go by T alone; in whole numbers they need one reduction at the end, not one for each step.
    rows, share = whole_grid(errors_of(parting))
    numbers, divisor = whole_row(rows_minus(guess, found))
    for _ in range(count):
        numbers = [whole_dot(row, numbers) for row in rows]
        divisor = divisor * share
    return tuple([plus(part, reduced(number, divisor)) for part, number in zip(found, numbers)])
