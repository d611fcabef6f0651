"""Walls: steps to them in an order that is gone round again and again, common points, rings and how fast they come."""
from sweepends.checks import require_amount, require_many, require_row
from sweepends.errors import InvalidIndex, InvalidOrder, InvalidShare, InvalidWalls
from sweepends.exact import NIL, ONE, are_noughts, dot, is_fraction, is_row, minus, over, row_times, rows_minus
from sweepends.exact import rows_plus, times, whole_row
from sweepends.grids import grid_polynomial, solved, solved_row
from sweepends.polynomials import scaled
from sweepends.roots import floor_root, is_root_upto
from sweepends.spans import combined, independent, shares_at
from sweepends.tables import MOST_ROWS

MOST_SIDES = 6
MOST_NAMED = 24


def is_fence(value):
    """Whether a value, whatever it is, is walls."""
    return type(value) is tuple and len(value) > 0 and odd_side(value) is None


def odd_side(value):
    """The index of the first element of a tuple that is no wall beside the first one, or one too many; None."""
    for index, side in enumerate(value):
        if index == MOST_SIDES or not is_side(side) or len(side[0]) != len(value[0][0]):
            return index
    return None


def is_side(value):
    """Whether a value, whatever it is, is a wall."""
    if type(value) is not tuple or len(value) != 2:
        return False
    row, right = value
    if type(row) is not tuple or not 1 <= len(row) <= MOST_ROWS or not is_row(len(row), row):
        return False
    return not are_noughts(row) and is_fraction(right)


def require_fence(value):
    if type(value) is not tuple or len(value) == 0:
        raise InvalidWalls(None)
    index = odd_side(value)
    if index is not None:
        raise InvalidWalls(index)


def is_index(value, count):
    return type(value) is int and 0 <= value < count


def require_order(value, count):
    """A tuple of one or more indexes of so many walls."""
    if type(value) is not tuple or len(value) == 0:
        raise InvalidOrder(None)
    for index, named in enumerate(value):
        if index == MOST_NAMED or not is_index(named, count):
            raise InvalidOrder(index)


def require_share(value):
    """A fraction above 0 and below 2."""
    if not is_fraction(value) or value[0] <= 0 or value[0] >= 2 * value[1]:
        raise InvalidShare(value)


def require_round(walls, order, share):
    """Walls with an order and a share for them."""
    require_fence(walls)
    require_order(order, len(walls))
    require_share(share)


def wall_step(walls, index, share, guess):
    """The point behind a step from the guess to a wall."""
    require_fence(walls)
    if not is_index(index, len(walls)):
        raise InvalidIndex(index)
    require_share(share)
    require_row(guess, len(walls[0][0]))
    return moved_to(walls[index], share, guess)


def moved_to(side, share, point):
    row, right = side
    far = minus(right, dot(row, point))
    return rows_plus(point, row_times(row, over(times(share, far), dot(row, row))))


def round_of(walls, order, share, guess):
    """The points behind each step of one round."""
    require_round(walls, order, share)
    require_row(guess, len(walls[0][0]))
    return points_of([walls[at] for at in order], share, guess)


def points_of(sides, share, guess):
    """The points behind each of the steps to these walls."""
    found, point = [], guess
    for side in sides:
        point = moved_to(side, share, point)
        found.append(point)
    return tuple(found)


def nearest_point(walls, guess):
    """The common point nearest to the guess; None if there is none."""
    require_fence(walls)
    require_row(guess, len(walls[0][0]))
    return nearest_common(walls, guess)


def nearest_common(walls, guess):
    kept = [walls[index] for index in independent([row for row, _ in walls])]
    rows = [row for row, _ in kept]
    lines = [tuple([dot(row, beside) for beside in rows]) for row in rows]
    shares = solved_row(lines, [minus(right, dot(row, guess)) for row, right in kept])
    point = rows_plus(guess, combined(shares, rows, len(guess)))
    # It is on the walls that are kept; the rows of all others are sums of multiples of theirs.
    return point if is_common(walls, point) else None


def is_common(walls, point):
    """Whether the point is on all walls."""
    return all(dot(row, point) == right for row, right in walls)


def parting_weights(walls):
    """Any weights with which the rows add up to noughts, but not the right numbers to 0; None."""
    require_fence(walls)
    return parting_row(walls)


def parting_row(walls):
    kept = independent([row for row, _ in walls])
    rows, rights = [walls[index][0] for index in kept], [walls[index][1] for index in kept]
    for at, (row, right) in enumerate(walls):
        shares = shares_at(rows, rows, row)
        if dot(shares, rights) != right:
            weights = [NIL] * len(walls)
            weights[at] = ONE
            for index, share in zip(kept, shares):
                weights[index] = minus(NIL, share)
            return tuple(weights)
    return None


def basis_of(sides):
    """The rows of walls without those that are sums of multiples of others before them."""
    rows = [row for row, _ in sides]
    return [rows[index] for index in independent(rows)]


def turned_round(sides, share, row):
    """What a round makes of the way from the ring to a guess."""
    return points_of([(line, NIL) for line, _ in sides], share, row)[-1]


def ring_of(walls, order, share, guess):
    """The ring, the point behind the order's first step first."""
    require_round(walls, order, share)
    require_row(guess, len(walls[0][0]))
    sides = [walls[at] for at in order]
    basis = basis_of(sides)
    # From the guess to the ring's last point it is that sum of the rows of which a round takes just what it goes.
    lost = [rows_minus(row, turned_round(sides, share, row)) for row in basis]
    gone = rows_minus(points_of(sides, share, guess)[-1], guess)
    last = rows_plus(guess, combined(shares_at(lost, basis, gone), basis, len(guess)))
    return points_of(sides, share, last)


def rounds_needed(walls, order, share):
    """The least number of rounds within which the order ends; None if it does not."""
    require_round(walls, order, share)
    sides = [walls[at] for at in order]
    rows, count = basis_of(sides), 1
    kept = ways_left(sides, share, rows)
    # What a round leaves of all ways is left for ever if it is made of as many rows as before.
    while 0 < len(kept) < len(rows):
        rows, count = kept, count + 1
        kept = ways_left(sides, share, rows)
    return count if len(kept) == 0 else None


def ways_left(sides, share, rows):
    """Rows, none a sum of multiples of others, that make up what a round makes of all sums of multiples of rows."""
    behind = [turned_round(sides, share, row) for row in rows]
    return [behind[index] for index in independent(behind)]


def shrinking_numbers(walls, order, share):
    """A whole polynomial, all its roots real and from 0 on, of which the shrinking is the greatest."""
    sides = [walls[at] for at in order]
    basis = basis_of(sides)
    behind = [turned_round(sides, share, row) for row in basis]
    squares = [tuple([dot(row, beside) for beside in basis]) for row in basis]
    left = [tuple([dot(row, beside) for beside in behind]) for row in behind]
    # The squares left over the squares: the greatest root of this grid is the greatest share.
    return whole_row(grid_polynomial(solved(squares, left)))[0]


def does_shrink(walls, order, share, fraction):
    """Whether one round leaves of all squares of distances from the ring at most this fraction."""
    require_round(walls, order, share)
    require_amount(fraction)
    number, divisor = fraction
    return is_root_upto(scaled(shrinking_numbers(walls, order, share), divisor, 1), number)


def shrinking_near(walls, order, share, many):
    """The least fraction by which the order shrinks (squares of distances), near."""
    require_round(walls, order, share)
    require_many(many)
    numbers = scaled(shrinking_numbers(walls, order, share), many, 1)
    near = floor_root(numbers)
    return near, is_root_upto(numbers, near)
