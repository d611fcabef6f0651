"""Grids that are below (nothing above 0 beside the diagonal): rows that they lift above 0, or that sink under them."""
from sweepends.exact import ONE, size_of
from sweepends.grids import grid_minus, solved_row, turned_grid, unit_grid
from sweepends.tables import corner_row, failing_count


def is_below(grid):
    """Whether all numbers beside the diagonal are at most 0."""
    return all(number[0] <= 0 for at, row in enumerate(grid) for k, number in enumerate(row) if k != at)


def lifting_row(grid):
    """A row v of amounts with grid v above 0 in each number, of a grid that is below; None."""
    # There is one exactly if all first rows and columns have determinants above 0; then the inverse is not below 0.
    if failing_count(grid) is not None:
        return None
    return solved_row(grid, (ONE,) * len(grid))


def sinking_row(grid):
    """A row w of contents, not all 0, with w grid at most 0 in each number, of a grid that is below; None."""
    columns = turned_grid(grid)
    count = failing_count(columns)
    if count is None:
        return None
    # All columns ahead of the failing one have a positive inverse and what stands beside them is not above 0, so this
    # row has no number below 0; behind that column it meets only what stands beside the diagonal.
    return corner_row(columns, count)


def sizes_of(grid):
    """The sizes of all numbers of a grid in their places."""
    return tuple([tuple([size_of(part) for part in row]) for row in grid])


def rest_of(sizes):
    """1 less a grid without numbers below 0: a grid that is below."""
    return grid_minus(unit_grid(len(sizes)), sizes)


def boxing_row(sizes):
    """A row v of amounts with sizes v below v in each number, of a grid without numbers below 0; None."""
    return lifting_row(rest_of(sizes))


def growing_row(sizes):
    """A row u of contents, not all 0, with sizes u at least u in each number, of such a grid; None."""
    return sinking_row(turned_grid(rest_of(sizes)))
