"""Partings with chosen roots of their error tables, and plain arithmetic of polynomials over numbers of Python."""
from fractions import Fraction
from random import Random

from helpers import det, made_row, made_rows, numbers, table_of, times, times_row
from sweepends.tables import inverse

HALF, THIRD = Fraction(1, 2), Fraction(1, 3)


def turning(real, other):
    """Rows with the roots real + other * i and real - other * i."""
    return [[Fraction(real), -Fraction(other)], [Fraction(other), Fraction(real)]]


def single(root):
    return [[Fraction(root)]]


def jordan(root, size):
    """Rows with one root so many times, and only one row that goes to a multiple of itself."""
    return [[Fraction(root) if at == k else Fraction(int(k == at + 1)) for k in range(size)] for at in range(size)]


def companion(*lower):
    """Rows with the polynomial whose numbers are these, the lowest power first, and 1."""
    size = len(lower)
    rows = [[Fraction(int(k == at + 1)) for k in range(size)] for at in range(size - 1)]
    return rows + [[-Fraction(number) for number in lower]]


def blocks(*parts):
    """The parts along a table, noughts beside them."""
    size = sum(len(part) for part in parts)
    rows, first = [], 0
    for part in parts:
        for line in part:
            rows.append([Fraction(0)] * first + list(line) + [Fraction(0)] * (size - first - len(part)))
        first += len(part)
    return rows


def one_rows(size):
    return [[Fraction(int(at == k)) for k in range(size)] for at in range(size)]


def minus_rows(rows, others):
    return [[one - other for one, other in zip(row, beside)] for row, beside in zip(rows, others)]


def back_rows(rows):
    return numbers(inverse(table_of(rows)))


def regular(size, seed, limit=3):
    while True:
        rows = made_rows(size, seed, limit)
        if det(rows) != 0:
            return rows
        seed += 1000


def whole_regular(size, seed):
    chance = Random(seed)
    while True:
        rows = [[Fraction(chance.randint(-3, 3)) for _ in range(size)] for _ in range(size)]
        if det(rows) != 0:
            return rows


def slanted(rows, seed):
    """The rows seen from other axes: the axes as columns, and rows with the same roots."""
    axes = whole_regular(len(rows), seed)
    return axes, times(times(axes, rows), back_rows(axes))


def parting_for(rows, seed=None):
    """A parting with these rows, which have no root 1, as error table; its M is made up from the seed."""
    size = len(rows)
    split = one_rows(size) if seed is None else regular(size, seed)
    return table_of(times(split, minus_rows(one_rows(size), rows))), table_of(split)


def parting_with(rows, seed):
    """A parting of which the error table has the roots of these rows, from other axes."""
    return parting_for(slanted(rows, seed)[1], seed)


def poly_times(one, other):
    found = [Fraction(0)] * (len(one) + len(other) - 1)
    for at, part in enumerate(one):
        for k, beside in enumerate(other):
            found[at + k] += part * beside
    return found


def poly_plus(one, other):
    size = max(len(one), len(other))
    return [sum(part[at] for part in (one, other) if at < len(part)) for at in range(size)]


def poly_power(one, count):
    found = [Fraction(1)]
    for _ in range(count):
        found = poly_times(found, one)
    return found


def poly_rest(one, other):
    """What is left of one over the other, whose last number is 1; [] for nothing."""
    left = list(one)
    while len(left) >= len(other):
        factor = left[-1]
        for at, part in enumerate(other):
            left[len(left) - len(other) + at] -= factor * part
        left.pop()
    while left and left[-1] == 0:
        left.pop()
    return left


def from_roots(roots):
    found = [Fraction(1)]
    for root in roots:
        found = poly_times(found, [-Fraction(root), Fraction(1)])
    return found


def rank(rows):
    left, found = [list(row) for row in rows], 0
    for at in range(len(rows[0]) if rows else 0):
        for k in range(found, len(left)):
            if left[k][at] != 0:
                left[found], left[k] = left[k], left[found]
                for other in range(found + 1, len(left)):
                    factor = left[other][at] / left[found][at]
                    left[other] = [one - factor * lead for one, lead in zip(left[other], left[found])]
                found += 1
                break
    return found


def images(rows, row, count):
    found = [list(row)]
    for _ in range(count):
        found.append(times_row(rows, found[-1]))
    return found


def dots(row, other):
    return sum(one * beside for one, beside in zip(row, other))


def mirrored(size, seed):
    """Rows of a mirroring: symmetric, their own inverse."""
    side = made_row(size, seed)
    if not any(side):
        side[0] = Fraction(1)
    share = 2 / dots(side, side)
    return [[(at == k) - share * side[at] * side[k] for k in range(size)] for at in range(size)]


def symmetric_with(roots, seed):
    """Symmetric rows with these roots, seen from other axes at right angles, and these axes as columns."""
    axes = times(mirrored(len(roots), seed), mirrored(len(roots), seed + 500))
    along = blocks(*[single(root) for root in roots])
    return axes, times(times(axes, along), [list(column) for column in zip(*axes)])
