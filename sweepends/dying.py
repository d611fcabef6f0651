"""Whether the errors of a parting die, from all guesses or from one, with the tables that show it."""
from sweepends.checks import require_row
from sweepends.errors import InvalidParting
from sweepends.exact import whole_row
from sweepends.grids import grid_minus, least_of, multiplied, solved_row, turned_grid, unit_row, whole_grid
from sweepends.partings import error_polynomial, errors_of, is_parting, require_parting
from sweepends.polynomials import is_within
from sweepends.tables import failing_count, require_table


def does_die(parting):
    """Whether the errors die for all right sides and first guesses."""
    require_parting(parting)
    return is_dying(parting)


def is_dying(parting):
    return is_within(whole_row(error_polynomial(parting))[0])


def least_polynomial(parting, error):
    """The least polynomial of the error under the error table."""
    require_parting(parting)
    require_row(error, len(parting[0]))
    return least_of(errors_of(parting), error)


def does_die_from(parting, error):
    """Whether the errors from this one die."""
    require_parting(parting)
    require_row(error, len(parting[0]))
    return is_dying_from(errors_of(parting), error)


def is_dying_from(errors, error):
    return is_within(whole_row(least_of(errors, error))[0])


def staying_error(parting):
    """Any unit row from which the errors do not die; None if they die."""
    require_parting(parting)
    if is_dying(parting):
        return None
    errors = errors_of(parting)
    for at in range(len(errors)):
        row = unit_row(len(errors), at)
        if not is_dying_from(errors, row):
            return row
    return None


def stein_table(parting):
    """The symmetric table H with H - T' H T = 1; None if the errors do not die."""
    require_parting(parting)
    if not is_dying(parting):
        return None
    return stein_grid(errors_of(parting))


def stein_grid(errors):
    """The symmetric H with H - T' H T = 1; no two roots of T, nor one with itself, have the product 1."""
    rows, divisor = whole_grid(errors)
    size, square = len(rows), divisor * divisor
    places = [(at, k) for at in range(size) for k in range(at, size)]
    lines = [stein_line(rows, square, place, places) for place in places]
    rights = [(square if at == k else 0, 1) for at, k in places]
    found = dict(zip(places, solved_row(lines, rights)))
    return tuple([tuple([found[min(at, k), max(at, k)] for k in range(size)]) for at in range(size)])


def stein_line(rows, square, place, places):
    """What each number of H, from the diagonal on, is taken times in the number of H - T' H T in this place.

    T is the rows over their divisor, everything is taken times its square.
    """
    one, other = place
    found = []
    for at, k in places:
        factor = rows[at][one] * rows[k][other]
        if at != k:
            factor += rows[k][one] * rows[at][other]
        found.append((square - factor if (at, k) == place else -factor, 1))
    return tuple(found)


def does_serve(table, parting):
    """Whether a table is symmetric and, H being the table, H and H - T' H T are positive."""
    require_table(table)
    if not is_parting(parting) or len(parting[0]) != len(table):
        raise InvalidParting(parting)
    return is_serving(table, parting)


def is_serving(table, parting):
    """Whether a table serves a parting with as many rows."""
    if turned_grid(table) != table or failing_count(table) is not None:
        return False
    errors = errors_of(parting)
    behind = multiplied(turned_grid(errors), multiplied(table, errors))
    return failing_count(grid_minus(table, behind)) is None
