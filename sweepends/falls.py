"""Symmetric tables: how far a step makes their form fall, and the partings of which every step does."""
from sweepends.checks import require_row
from sweepends.exact import minus, rows_plus
from sweepends.grids import grid_form, grid_minus, image, turned_grid
from sweepends.partings import errors_of, require_parting
from sweepends.tables import failing_count, require_symmetric


def fall(parting, error):
    """The form of A at the error less that at the error behind a step."""
    require_parting(parting)
    require_row(error, len(parting[0]))
    table, _ = parting
    require_symmetric(table)
    behind = image(errors_of(parting), error)
    return minus(grid_form(table, error), grid_form(table, behind))


def is_lifted(parting):
    """Whether M + M' - A is positive."""
    require_parting(parting)
    table, split = parting
    require_symmetric(table)
    both = [rows_plus(row, beside) for row, beside in zip(split, turned_grid(split))]
    return failing_count(grid_minus(both, table)) is None
