"""Tables whose unknowns stand in levels: what all factors of behind do at once, and the best of them."""
from sweepends.checks import require_many
from sweepends.errors import InvalidFactor, NotLevelled
from sweepends.exact import NIL, is_fraction, whole_row
from sweepends.methods import parting_of
from sweepends.partings import error_polynomial
from sweepends.polynomials import added, are_above, multiplied_out, scaled, shifted, with_lead_one
from sweepends.roots import is_root_below, is_root_upto
from sweepends.tables import require_table


def levels_of(table):
    """A whole number for each unknown, of two tied ones that of the later one 1 more; None."""
    require_table(table)
    return levels_by_ties(table)


def levels_by_ties(table):
    found = [None] * len(table)
    for start in range(len(table)):
        if found[start] is None:
            part = levels_from(table, start)
            if part is None:
                return None
            least = min(list(part.values()))
            for at in part:
                found[at] = part[at] - least
    return tuple(found)


def levels_from(table, start):
    """The levels of all unknowns that hang together with one, this one's being 0; None."""
    found, waiting = {start: 0}, [start]
    while waiting:
        at = waiting.pop()
        for k in range(len(table)):
            if k == at or (table[at][k] == NIL and table[k][at] == NIL):
                continue
            level = found[at] + 1 if k > at else found[at] - 1
            if k not in found:
                found[k] = level
                waiting.append(k)
            elif found[k] != level:
                return None
    return found


def squares_of(table):
    """The polynomial q, whose roots are the squares of those roots of the error table of each that are not 0."""
    require_table(table)
    return squares_by_levels(table)


def squares_by_levels(table):
    parting = parting_of(table, ("each",))
    if levels_by_ties(table) is None:
        raise NotLevelled()
    polynomial = error_polynomial(parting)
    first = 0
    while polynomial[first] == NIL:
        first += 1
    return polynomial[first::2]


def behind_polynomial(table, factor):
    """The polynomial of the error table of behind with the factor."""
    require_table(table)
    if not is_fraction(factor) or factor == NIL:
        raise InvalidFactor(factor)
    squares, _ = whole_row(squares_by_levels(table))
    number, divisor = factor
    # All in whole numbers: x + W - 1 times the divisor of W, x * W * W times its square.
    lag, pull = [number - divisor, divisor], [0, number * number]
    total, share = squares[-1:], [1]
    for square in squares[-2::-1]:
        share = multiplied_out(share, pull)
        total = added(multiplied_out(multiplied_out(total, lag), lag), [square * part for part in share])
    for _ in range(len(table) - 2 * (len(squares) - 1)):
        total = multiplied_out(total, lag)
    return with_lead_one(total)


def best_near(table, many):
    """The factor with which behind has the least size, near; None if not all squares are above 0 and below 1."""
    require_table(table)
    require_many(many)
    squares, _ = whole_row(squares_by_levels(table))
    if len(squares) == 1:
        return many, True
    if not are_shares(squares):
        return None
    low, high = many, 2 * many
    while high - low > 1:
        middle = (low + high) // 2
        if is_root_below(scaled(squares, middle * middle, 1), bound_times(middle, many)):
            high = middle
        else:
            low = middle
    return low, is_root_upto(scaled(squares, low * low, 1), bound_times(low, many))


def bound_times(number, many):
    """4 * (W - 1) / (W * W), W being number / many, times the square of the number: whole."""
    return 4 * (number - many) * many


def are_shares(squares):
    """Whether all roots of whole squares, one or two, are real, above 0 and below 1."""
    if len(squares) == 3 and squares[1] * squares[1] < 4 * squares[0] * squares[2]:
        return False
    # Real roots are all below a place just where the numbers, seen from there, are all above 0.
    mirrored = [-number if power & 1 else number for power, number in enumerate(squares[::-1])]
    return are_above(mirrored) and are_above(shifted(squares, 1))
