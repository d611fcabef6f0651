"""Tables whose inverse has no number below 0, and the regular partings of them."""
from sweepends.errors import NoInverse, NotBelow
from sweepends.exact import NIL
from sweepends.grids import grid_determinant, grid_minus, solved, unit_grid
from sweepends.lifts import is_below, lifting_row, sinking_row
from sweepends.methods import parting_of
from sweepends.partings import error_polynomial, require_parting
from sweepends.tables import require_table


def is_inverse_positive(table):
    """Whether the table has an inverse of which no number is below 0."""
    require_table(table)
    return is_turned_positive(table)


def is_turned_positive(grid):
    """Whether a grid has an inverse of which no number is below 0."""
    found = solved(grid, unit_grid(len(grid)))
    return found is not None and has_none_below(found)


def has_none_below(grid):
    """Whether no number of a grid is below 0."""
    return all(number >= 0 for row in grid for number, _ in row)


def require_below(table):
    if not is_below(table):
        raise NotBelow()


def lifting_amounts(table):
    """Any row v of amounts with A v above 0 in each number; None."""
    require_table(table)
    require_below(table)
    return lifting_row(table)


def sinking_contents(table):
    """Any row w of contents, not all 0, with w A at most 0 in each number; None."""
    require_table(table)
    require_below(table)
    return sinking_row(table)


def is_regular(parting):
    """Whether M^-1 and N have no number below 0."""
    require_parting(parting)
    return is_regular_parting(parting)


def is_regular_parting(parting):
    table, split = parting
    return has_none_below(grid_minus(split, table)) and is_turned_positive(split)


def never_slower(parting, other):
    """Whether both are regular, of one table that is inverse positive, and no number of N is above the other one's."""
    require_parting(parting)
    require_parting(other)
    if parting[0] != other[0] or not is_turned_positive(parting[0]):
        return False
    if not is_regular_parting(parting) or not is_regular_parting(other):
        return False
    # N less the other N is M less the other M, as both are of one table.
    return has_none_below(grid_minus(other[1], parting[1]))


def sweep_word(table):
    """What both each and behind with the factor 1 do: ends, dies (behind is quicker) or grows (behind is so, too)."""
    require_table(table)
    if grid_determinant(table) == NIL:
        raise NoInverse()
    if not is_below(table) or not is_upright(table):
        raise NotBelow()
    polynomial = error_polynomial(parting_of(table, ("each",)))
    if all(number == NIL for number in polynomial[:-1]):
        return "ends"
    return "dies" if is_turned_positive(table) else "grows"


def is_upright(table):
    """Whether all that stands along the table is above 0."""
    return all(row[at][0] > 0 for at, row in enumerate(table))
