"""What the tests share: plain reference arithmetic, made-up tables, and values that are wrong anywhere."""
from fractions import Fraction
from itertools import permutations
from random import Random

NIL, ONE, TWO, LESS, HALF = (0, 1), (1, 1), (2, 1), (-1, 1), (1, 2)


class Prickly:
    """A value that may be looked at by its class only."""

    __hash__ = None

    def refuse(self, *_):
        raise AssertionError("a value was asked instead of looked at")

    __eq__ = __ne__ = __lt__ = __gt__ = __le__ = __ge__ = refuse
    __bool__ = __len__ = __iter__ = __getitem__ = __index__ = __int__ = refuse
    __add__ = __radd__ = __sub__ = __mul__ = __contains__ = __str__ = __repr__ = refuse


def nested(depth):
    value = 1
    for _ in range(depth):
        value = (value,)
    return value


# No fraction, row, table, parting, method or number of anything, whichever is asked for.
ODD_VALUES = (
    None, True, False, "", "each", "11", b"", b"each", (), [], {}, set(), frozenset(), {1: 2}, {1, 2}, {(1, 1)},
    object(), Prickly(), (Prickly(),), (Prickly(), Prickly()), int, len, lambda: 1, ValueError("x"), range(2), -1,
    10 ** 400, -10 ** 400, nested(14), ("each", "each"), ((),), ((), ()), [(1, 1)], [[(1, 1)]], (None, None),
    ("1", "1"), (b"1", b"1"), (True, True), (False, True),
)
# Pairs that look like fractions.
ODD_FRACTIONS = (
    (2, 2), (0, 2), (0, 0), (1, 0), (1, -1), (-1, -1), (0, -1), (2, 4), (-3, 6), (True, 1), (1, True), (False, 1),
    (0, True), (1,), (1, 1, 1), [1, 1], (1, None), (None, 1), ("1", 1), (1, "1"), ((1, 1), (1, 1)), 1, 0, "12", b"12",
    (10 ** 399, 10 ** 399), (1, (1,)), {1: 1},
)


def number(part):
    return Fraction(part[0], part[1])


def numbers(rows):
    return [[number(part) for part in row] for row in rows]


def pair_of(value):
    value = Fraction(value)
    return (value.numerator, value.denominator)


def row_of(values):
    return tuple(pair_of(value) for value in values)


def table_of(rows):
    return tuple(row_of(row) for row in rows)


def one_table(size):
    return table_of([[int(at == k) for k in range(size)] for at in range(size)])


def times(rows, others):
    return [[sum(one * other for one, other in zip(row, column)) for column in zip(*others)] for row in rows]


def times_row(rows, row):
    return [sum(one * other for one, other in zip(line, row)) for line in rows]


def sign_of(order):
    swaps = sum(1 for at, one in enumerate(order) for other in order[at + 1:] if other < one)
    return -1 if swaps & 1 else 1


def det(rows):
    """The determinant by the sum over all orders, of numbers or of anything with + and *."""
    total = 0
    for order in permutations(range(len(rows))):
        part = sign_of(order)
        for at, k in enumerate(order):
            part = part * rows[at][k]
        total = total + part
    return total


def form(rows, row):
    return sum(one * other for one, other in zip(row, times_row(rows, row)))


def worth(polynomial, at):
    return sum(number(part) * at ** power for power, part in enumerate(polynomial))


def fraction_maker(seed, limit=6):
    chance = Random(seed)

    def make():
        return Fraction(chance.randint(-limit, limit), chance.randint(1, limit))
    return make


def made_rows(size, seed, limit=6):
    make = fraction_maker(seed, limit)
    return [[make() for _ in range(size)] for _ in range(size)]


def made_row(size, seed, limit=6):
    make = fraction_maker(seed, limit)
    return [make() for _ in range(size)]


def singular_rows(size, seed):
    """Rows of which one is a sum of multiples of others."""
    rows = made_rows(size, seed)
    make = fraction_maker(seed + 1000)
    shares = [make() for _ in rows]
    last = seed % size
    rows[last] = [sum(shares[at] * rows[at][k] for at in range(size) if at != last) for k in range(size)]
    return rows


def symmetric_rows(size, seed):
    rows = made_rows(size, seed)
    return [[rows[min(at, k)][max(at, k)] for k in range(size)] for at in range(size)]


def gram_rows(size, rank, seed):
    """Symmetric rows of which no form is below 0, of a rank up to the one that is told."""
    make = fraction_maker(seed, 4)
    sides = [[make() for _ in range(size)] for _ in range(rank)]
    return [[sum((side[at] * side[k] for side in sides), Fraction(0)) for k in range(size)] for at in range(size)]


def swapped(given, name, value):
    changed = dict(given)
    changed[name] = value
    return changed
