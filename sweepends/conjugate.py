"""Conjugate steps of symmetric and positive tables: where they lead, when they end, and the bounds of Chebyshev."""
from sweepends.checks import require_amount, require_fraction, require_number, require_row
from sweepends.errors import InvalidFraction, NotPositive
from sweepends.exact import NIL, ONE, dot, is_above, minus, over, plus, reduced, row_times, rows_minus, rows_plus
from sweepends.exact import whole_row
from sweepends.grids import grid_form, grid_polynomial, image, least_of, unit_row
from sweepends.polynomials import divided, lowered_terms, multiplied_out, scaled, shared_part
from sweepends.roots import is_root_upto
from sweepends.tables import failing_count, require_symmetric, require_table

MOST_COUNT = 5
MOST_CHEBYSHEV = 60


def degree_of(table, row):
    """The degree of the least polynomial of the row under the table."""
    require_table(table)
    require_row(row, len(table))
    return len(least_of(table, row)) - 1


def most_degree(table):
    """The greatest degree of a row under the table."""
    require_table(table)
    found = [1]
    # It is that of the least polynomial which all those of the unit rows divide.
    for at in range(len(table)):
        numbers = lowered_terms(whole_row(least_of(table, unit_row(len(table), at)))[0])
        found = multiplied_out(found, divided(numbers, shared_part(found, numbers)))
    return len(found) - 1


def require_start(table, right, guess):
    """A table with a right side and a guess of as many unknowns."""
    require_table(table)
    require_row(right, len(table))
    require_row(guess, len(table))


def require_positive(table):
    """A symmetric table that is positive."""
    require_symmetric(table)
    if failing_count(table) is not None:
        raise NotPositive()


def conjugate_steps(table, right, guess):
    """All guesses and, for each step, how far it goes and how much of its way the next one takes along."""
    guesses, shares = [guess], []
    left = rows_minus(right, image(table, guess))
    way, square = left, dot(left, left)
    while square != NIL:
        passed = image(table, way)
        share = over(square, dot(way, passed))
        guesses.append(rows_plus(guesses[-1], row_times(way, share)))
        left = rows_minus(left, row_times(passed, share))
        before, square = square, dot(left, left)
        carry = over(square, before)
        way = rows_plus(left, row_times(way, carry))
        shares.append((share, carry))
    return guesses, shares


def conjugate_run(table, right, guess):
    """All guesses, the first one first, the solution last."""
    require_start(table, right, guess)
    require_positive(table)
    guesses, _ = conjugate_steps(table, right, guess)
    return tuple(guesses)


def steps_to_end(table, right, guess):
    """How many steps the run has: as many as the first residual has degree."""
    require_start(table, right, guess)
    require_positive(table)
    return len(least_of(table, rows_minus(right, image(table, guess)))) - 1


def error_forms(table, right, guess):
    """The forms of the error at all guesses."""
    require_start(table, right, guess)
    require_positive(table)
    guesses, _ = conjugate_steps(table, right, guess)
    return tuple([grid_form(table, rows_minus(guesses[-1], point)) for point in guesses])


def residual_polynomial(table, right, guess, count):
    """The polynomial q with q(0) = 1 that makes of the first residual the one behind so many steps."""
    require_start(table, right, guess)
    require_number(count, 0, MOST_COUNT)
    require_positive(table)
    _, shares = conjugate_steps(table, right, guess)
    found, way = (ONE,), (ONE,)
    for share, carry in shares[:count]:
        found = rows_minus(found + (NIL,), (NIL,) + row_times(way, share))
        way = rows_plus(found, row_times(way, carry) + (NIL,))
    return found


def has_roots_within(table, low, high):
    """Whether all roots of the symmetric table are from low up to high."""
    require_table(table)
    require_fraction(low)
    require_fraction(high)
    require_symmetric(table)
    numbers, _ = whole_row(grid_polynomial(table))
    # The mirrored polynomial, its lead above 0, has the roots with the other sign.
    mirrored = [-number if power & 1 else number for power, number in enumerate(numbers[::-1])][::-1]
    return are_roots_upto(numbers, high) and are_roots_upto(mirrored, minus(NIL, low))


def are_roots_upto(numbers, bound):
    """Whether no root of a whole polynomial, all of them real, is above a fraction."""
    number, divisor = bound
    return is_root_upto(scaled(numbers, divisor, 1), number)


def require_range(low, high):
    """A fraction above 0 and a greater one."""
    require_amount(low)
    require_fraction(high)
    if not is_above(high, low):
        raise InvalidFraction(high)


def chebyshev_bound(low, high, count):
    """1 over the square of T_k((high + low) / (high - low)), k being the count."""
    require_range(low, high)
    require_number(count, 0, MOST_CHEBYSHEV)
    number, divisor = over(plus(high, low), minus(high, low))
    # T_k is the whole number told over the divisor to the power k, following the one behind it.
    told, following, scale = 1, number, 1
    for _ in range(count):
        told, following = following, 2 * number * following - divisor * divisor * told
        scale = scale * divisor
    return reduced(scale * scale, told * told)


def worst_pair(low, high, count):
    """Any table and right side for which so many steps from noughts do just what chebyshev_bound tells."""
    require_range(low, high)
    require_number(count, 1, 2)
    middle = over(plus(low, high), (2, 1))
    # Chebyshev's polynomial is 1, - 1 (and 1) over its worth at 0 at these roots; its residual is at right angles to
    # the right side of ones (and to the table times it) if the middle root counts twice.
    roots = (low, high) if count == 1 else (low, middle, middle, high)
    size = len(roots)
    table = tuple([row_times(unit_row(size, at), root) for at, root in enumerate(roots)])
    return table, (ONE,) * size
