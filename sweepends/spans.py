"""Sums of multiples of rows, without checks of arguments."""
from sweepends.exact import NIL, dot, row_times, rows_plus
from sweepends.grids import solved_row


def combined(shares, rows, size):
    """The sum of the rows of so many numbers, each times its share."""
    found = (NIL,) * size
    for share, row in zip(shares, rows):
        found = rows_plus(found, row_times(row, share))
    return found


def shares_at(rows, duals, row):
    """The shares for which the row less the sum of the rows is at right angles to all of as many duals.

    There has to be just one answer: so it is if the duals are the rows themselves, none a sum of multiples of others.
    """
    lines = [tuple([dot(dual, part) for part in rows]) for dual in duals]
    return solved_row(lines, [dot(dual, row) for dual in duals])


def independent(rows):
    """The indexes of the rows that are no sums of multiples of those before them."""
    found, kept = [], []
    for index, row in enumerate(rows):
        if combined(shares_at(kept, kept, row), kept, len(row)) != row:
            found.append(index)
            kept.append(row)
    return found
