"""What is claimed in the tests of the checker: things of each kind, and which claims exclude one another."""
from fractions import Fraction

from chosen import blocks, companion, jordan, one_rows, parting_for, regular, single, symmetric_with, turning
from helpers import (
    NIL, ONE, gram_rows, made_row, made_rows, one_table, pair_of, row_of, symmetric_rows, table_of)
from sweepends import certificates
from sweepends.methods import parting_of

HALF = Fraction(1, 2)
EXCLUDED = {
    "dies": "stays", "dies from": "stays from", "positive": "not positive", "quicker": "no quicker",
    "dies late": "grows late", "inverse positive": "not inverse positive",
    "all inverse positive": "not all inverse positive", "never stands": "may stand", "walls meet": "walls part"}
EXCLUDED.update({other: name for name, other in list(EXCLUDED.items())})
NAMES = sorted(EXCLUDED) + ["ends after", "falls"]


def partings():
    rows = [single(0), single(HALF), single(-1), single(-2), turning(HALF, HALF), turning(0, 1), turning(1, 1),
            turning(Fraction(3, 5), Fraction(3, 5)), jordan(HALF, 3), jordan(-1, 2), companion(0, 0, HALF),
            blocks(single(-2), single(HALF)), blocks(turning(HALF, HALF), single(-1)), blocks(jordan(0, 4), single(3))]
    found = [parting_for(part, seed) for seed, part in enumerate(rows)]
    table = table_of([[2, -1], [-1, 2]])
    methods = (("each",), ("behind", ONE), ("back", (1, 2)), ("behind", (3, 1)))
    found += [parting_of(table, method) for method in methods]
    found += [(table_of(regular(size, size)), table_of(regular(size, size + 3))) for size in (1, 2, 3, 4, 5)]
    return found


def symmetric_tables():
    found = [table_of(symmetric_rows(size, size + seed)) for size in (1, 2, 3, 4, 5) for seed in (0, 10)]
    found += [table_of(gram_rows(size, size + extra, 4)) for size in (1, 2, 3, 4, 5) for extra in (-1, 1)]
    found += [table_of(symmetric_with(roots, 2)[1]) for roots in ((1, 2, 3), (0, 1), (-1, 5, 5), (2, 2, 2, 2))]
    return found + [table_of([[0, 0], [0, 0]]), table_of([[0, 1], [1, 0]]), one_table(5)]


def below_tables():
    found = []
    for size in (1, 2, 3, 4, 5):
        for along in (size, Fraction(size, 3), 0, -1, size - 1, Fraction(1, 10 ** 30) + size - 1):
            found.append(table_of([[along if at == k else -1 for k in range(size)] for at in range(size)]))
    found += [table_of([[1, -9], [0, 1]]), table_of([[1, -2, 0], [-2, 1, 0], [0, 0, 1]])]
    return found + [one_table(4)]


def bounds():
    pair, good = table_of([[2, -1], [-1, 2]]), table_of([[3, -1], [0, 3]])
    foes, over = table_of([[1, -2], [-2, 1]]), table_of([[3, 1], [1, 3]])
    turn = table_of([[0, 1], [1, 0]])
    return [(pair, good), (pair, pair), (foes, pair), (pair, over), (foes, over), (turn, turn), (one_table(4),) * 2,
            (table_of([[0] * 3] * 3), one_table(3)), (table_of([[-1]]), table_of([[1]]))]


def positive_tables():
    several = ((1, 2), (1, 2, 3), (1, 1, 2, 3), (1, 2, 3, 4, 5), (7, 7, 7))
    found = [table_of(symmetric_with(roots, 5)[1]) for roots in several]
    return found + [table_of([[2, -1], [-1, 2]]), one_table(1), one_table(3)]


def regular_tables():
    found = [table_of(regular(size, seed)) for size in (1, 2, 3, 4, 5) for seed in (1, 2)]
    found += [table_of([[0, 1], [-1, 0]]), table_of([[1, 2], [0, 1]]), table_of([[-3, 1], [1, -3]]), one_table(4)]
    return found + [table_of([[5 * (at == k) + made_rows(4, 2)[at][k] / 9 for k in range(4)] for at in range(4)])]


def fences():
    made = [made_rows(size, size + 1) for size in (1, 2, 3, 4, 5)]
    found = []
    for rows in made:
        point = made_row(len(rows), 3)
        sides = [(row_of(row), pair_of(sum(one * two for one, two in zip(row, point)))) for row in rows if any(row)]
        found += [tuple(sides), tuple(sides + [(sides[0][0], pair_of(Fraction(99)))])[:6], tuple(sides[:1] * 3)]
    found.append((((ONE, NIL), NIL), ((ONE, NIL), (1, 10 ** 30))))
    return found


def rows_for(size, seed):
    return [row_of(made_row(size, seed)), row_of(one_rows(size)[seed % size]), (NIL,) * size]


def amounts_for(size, seed):
    return row_of([abs(part) + Fraction(1, 2 + at) for at, part in enumerate(made_row(size, seed))])


def tasks():
    """Each certificate's function with arguments for it."""
    found = [(certificates.certify_dying, (parting,)) for parting in partings()]
    found += [(certificates.certify_late, (parting,)) for parting in partings()]
    for at, parting in enumerate(partings()):
        found += [(certificates.certify_error, (parting, row)) for row in rows_for(len(parting[0]), at)]
        found += [(certificates.certify_quicker, (parting, other)) for other in partings()[at % 4::4]]
    found += [(certificates.certify_positive, (table,)) for table in symmetric_tables()]
    found += [(certificates.certify_inverse, (table,)) for table in below_tables()]
    found += [(certificates.certify_bounds, (pair,)) for pair in bounds()]
    for at, table in enumerate(positive_tables()):
        size = len(table)
        found += [(certificates.certify_end, (table, right, guess)) for right in rows_for(size, at)
                  for guess in rows_for(size, at + 1)[1:]]
    for at, table in enumerate(regular_tables()):
        size = len(table)
        for amounts in ((ONE,) * size, amounts_for(size, at)):
            found.append((certificates.certify_standing, (table, amounts)))
            found += [(certificates.certify_fall, (table, right, amounts)) for right in rows_for(size, at)]
    return found + [(certificates.certify_meeting, (fence,)) for fence in fences()]
