"""Rows of rows of fractions: products, determinants and solutions, without checks of arguments."""
from sweepends.exact import NIL, ONE, dot, reduced, rows_minus, whole_dot, whole_row


def turned_grid(grid):
    """Rows for columns."""
    return tuple([tuple(column) for column in zip(*grid)])


def multiplied(grid, other):
    columns = turned_grid(other)
    return tuple([tuple([dot(row, column) for column in columns]) for row in grid])


def image(grid, row):
    """The grid times the row."""
    return tuple([dot(line, row) for line in grid])


def grid_form(grid, row):
    """The form of a symmetric grid at the row."""
    return dot(row, image(grid, row))


def grid_minus(grid, other):
    return tuple([rows_minus(row, beside) for row, beside in zip(grid, other)])


def unit_row(size, at):
    return tuple([ONE if k == at else NIL for k in range(size)])


def unit_grid(size):
    return tuple([unit_row(size, at) for at in range(size)])


def corner(grid, count):
    """The first rows and columns."""
    return tuple([row[:count] for row in grid[:count]])


def whole_grid(grid):
    """The whole-number rows and the one divisor that make a square grid of fractions."""
    numbers, divisor = whole_row([part for row in grid for part in row])
    size = len(grid)
    return [numbers[at * size:(at + 1) * size] for at in range(size)], divisor


def pivot_row(rows, at):
    """The first row, from the row `at` on, that is not 0 in the column `at`; None."""
    for k in range(at, len(rows)):
        if rows[k][at] != 0:
            return k
    return None


def cleared(rows, size):
    """Whole-number rows, as many as the size, with columns cleared but along them, the determinant, how many columns.

    If the determinant of the first `size` columns is 0, just those ahead of the first one are cleared that is a sum of
    multiples of these; in any case one and the same number stands along the cleared ones.
    """
    lines = list(rows)
    ahead, sign = 1, 1
    for at in range(size):
        found = pivot_row(lines, at)
        if found is None:
            return lines, 0, at
        if found != at:
            lines[at], lines[found] = lines[found], lines[at]
            sign = -sign
        lead = lines[at]
        for k in range(size):
            if k != at:
                # The pivot ahead divides each of these without a rest (Bareiss), which keeps the numbers small.
                factor = lines[k][at]
                lines[k] = [(lead[at] * one - factor * other) // ahead for one, other in zip(lines[k], lead)]
        ahead = lead[at]
    return lines, sign * ahead, size


def grid_determinant(grid):
    rows, scale = [], 1
    for row in grid:
        numbers, divisor = whole_row(row)
        rows.append(numbers)
        scale = scale * divisor
    _, worth, _ = cleared(rows, len(rows))
    return reduced(worth, scale)


def solved(grid, rights):
    """The one grid X with grid X = rights; None if the first grid has no inverse."""
    size = len(grid)
    lines, worth, _ = cleared([whole_row(row + right)[0] for row, right in zip(grid, rights)], size)
    if worth == 0:
        return None
    return tuple([tuple([reduced(number, line[at]) for number in line[size:]]) for at, line in enumerate(lines)])


def solved_row(grid, right):
    """The one row x with grid x = right; None if the grid has no inverse."""
    columns = solved(grid, [(part,) for part in right])
    if columns is None:
        return None
    return tuple([column[0] for column in columns])


def whole_polynomial(rows):
    """The numbers of det (x * 1 - rows) for whole-number rows, that of the highest power first (Faddeev, LeVerrier)."""
    size = len(rows)
    numbers = [1]
    grid = [[1 if at == k else 0 for k in range(size)] for at in range(size)]
    for count in range(1, size + 1):
        columns = [list(column) for column in zip(*grid)]
        grid = [[whole_dot(row, column) for column in columns] for row in rows]
        number = -sum([grid[at][at] for at in range(size)]) // count
        for place in range(size):
            grid[place][place] += number
        numbers.append(number)
    return numbers


def grid_polynomial(grid):
    """The polynomial det (x * 1 - grid), the number of the lowest power first."""
    rows, divisor = whole_grid(grid)
    found, scale = [], 1
    for number in whole_polynomial(rows):
        found.append(reduced(number, scale))
        scale = scale * divisor
    return tuple(found[::-1])


def least_of(grid, row):
    """The polynomial p of least degree, its last number 1, with p(grid) row = noughts."""
    rows, divisor = whole_grid(grid)
    numbers, _ = whole_row(row)
    columns = [numbers]
    for _ in rows:
        columns.append([whole_dot(line, columns[-1]) for line in rows])
    lines, _, degree = cleared([list(line) for line in zip(*columns)], len(rows))
    found, scale = [ONE], 1
    for at in range(degree - 1, -1, -1):
        scale = scale * divisor
        found.append(reduced(-lines[at][degree], lines[at][at] * scale))
    return tuple(found[::-1])
