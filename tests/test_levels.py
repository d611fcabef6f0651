"""Levels: ties and their rings, squares of the roots of each, polynomials of behind, and the best factor."""
import unittest
from decimal import Decimal, getcontext
from fractions import Fraction
from itertools import combinations, permutations, product as all_of

from chosen import HALF, THIRD, blocks, parting_for, poly_plus, poly_power, poly_times, single
from helpers import NIL, ONE, TWO, det, fraction_maker, number, pair_of, table_of
from sweepends.dying import does_die
from sweepends.levels import behind_polynomial, best_near, levels_of, squares_of
from sweepends.methods import parting_of
from sweepends.partings import error_table
from sweepends.rates import is_size_below, rate_word
from sweepends.tables import is_positive, polynomial_of

SIZES = (1, 2, 3, 4, 5)
FACTORS = (Fraction(1), Fraction(1, 3), Fraction(2), Fraction(3, 2), Fraction(-1), Fraction(-5, 7), Fraction(11, 4),
           Fraction(10 ** 20 + 1, 10 ** 20))
# Ties with levels, each in its order of unknowns.
LEVELLED = {
    1: [()],
    2: [(), ((0, 1),)],
    3: [(), ((0, 1), (1, 2)), ((0, 2), (1, 2)), ((0, 1), (0, 2)), ((0, 2),)],
    4: [((0, 1), (1, 2), (2, 3)), ((0, 2), (0, 3), (1, 2), (1, 3)), ((0, 1), (0, 2), (1, 3), (2, 3)), ((0, 3), (1, 2)),
        ((0, 1), (2, 3)), ((0, 1), (0, 2), (0, 3)), ((0, 3), (1, 3))],
    5: [((0, 1), (1, 2), (2, 3), (3, 4)), ((0, 2), (1, 2), (2, 3), (2, 4)), ((0, 4), (1, 3)), ((1, 2), (3, 4)),
        ((0, 1), (0, 2), (1, 3), (2, 3), (3, 4)), ((0, 3), (1, 3), (2, 4), (0, 4), (1, 4)), ((0, 1), (1, 4), (0, 2)), ()],
}


def tied_rows(size, ties, seed, one_sided=False):
    """Rows with an inverse and these ties, without a 0 along them."""
    make = fraction_maker(seed, 5)

    def other():
        found = make()
        while found == 0:
            found = make()
        return found
    while True:
        rows = [[other() if at == k else Fraction(0) for k in range(size)] for at in range(size)]
        for count, (at, k) in enumerate(ties):
            rows[at][k], rows[k][at] = other(), other()
            if one_sided:
                rows[at if count & 1 else k][k if count & 1 else at] = Fraction(0)
        if det(rows) != 0:
            return rows


def levelled_rows():
    for size in SIZES:
        for at, ties in enumerate(LEVELLED[size]):
            for seed in range(5):
                yield tied_rows(size, ties, seed + 10 * at)
            yield tied_rows(size, ties, at, True)


def rows_of_ties(size, ties, along=0, kind=0):
    rows = [[Fraction(along) if at == k else Fraction(0) for k in range(size)] for at in range(size)]
    for at, k in ties:
        if kind != 1:
            rows[at][k] = Fraction(1 + at, 3)
        if kind != 2:
            rows[k][at] = Fraction(-2, 1 + k)
    return rows


def parts_of(size, ties):
    """The parts that hang together."""
    names = list(range(size))
    for _ in range(size):
        for at, k in ties:
            names[at] = names[k] = min(names[at], names[k])
    return [[at for at in range(size) if names[at] == name] for name in sorted(set(names))]


def rings_are_even(size, ties):
    """Whether along each ring as many ties lead to later unknowns as to earlier ones."""
    tied = set(ties) | {(k, at) for at, k in ties}
    for count in range(3, size + 1):
        for ring in permutations(range(size), count):
            if ring[0] != min(ring):
                continue
            pairs = list(zip(ring, ring[1:] + ring[:1]))
            if all(pair in tied for pair in pairs) and sum(1 if k > at else -1 for at, k in pairs) != 0:
                return False
    return True


class Levels(unittest.TestCase):
    def test_all_ties(self):
        for size in SIZES:
            pairs = list(combinations(range(size), 2))
            for chosen in all_of((0, 1), repeat=len(pairs)):
                ties = [pair for pair, is_tied in zip(pairs, chosen) if is_tied]
                for kind in (0, 1, 2) if size < 5 else (sum(chosen) % 3,):
                    found = levels_of(table_of(rows_of_ties(size, ties, kind, kind)))
                    self.assertEqual(found is not None, rings_are_even(size, ties), ties)
                    if found is not None:
                        self.check(found, size, ties)

    def check(self, found, size, ties):
        self.assertEqual([type(found)] + [type(level) for level in found], [tuple] + [int] * size)
        for at, k in ties:
            self.assertEqual(found[k], found[at] + 1)
        for part in parts_of(size, ties):
            self.assertEqual(min(found[at] for at in part), 0)

    def test_known_ones(self):
        for size, ties, wanted in (
                (1, (), (0,)), (4, (), (0, 0, 0, 0)), (4, ((0, 1), (1, 2), (2, 3)), (0, 1, 2, 3)),
                (4, ((0, 2), (0, 3), (1, 2), (1, 3)), (0, 0, 1, 1)), (4, ((0, 1), (0, 2), (1, 3), (2, 3)), (0, 1, 1, 2)),
                (3, ((0, 1), (1, 2), (0, 2)), None), (4, ((0, 1), (1, 2), (2, 3), (0, 3)), None),
                (5, ((0, 4), (1, 3)), (0, 0, 0, 1, 1)), (5, ((2, 3), (3, 4), (2, 4)), None),
                (5, ((0, 2), (1, 2), (1, 4), (3, 4)), (0, 0, 1, 0, 1)), (3, ((0, 1), (0, 2)), (0, 1, 1)),
                (3, ((0, 2), (1, 2)), (0, 0, 1)), (5, ((0, 4), (3, 4), (2, 3), (1, 2)), (2, 0, 1, 2, 3)),
                (5, ((0, 1), (2, 4), (3, 4)), (0, 1, 0, 0, 1))):
            for kind in (0, 1, 2):
                self.assertEqual(levels_of(table_of(rows_of_ties(size, ties, 1, kind))), wanted)
                self.assertEqual(levels_of(table=table_of(rows_of_ties(size, ties, 0, kind))), wanted)

    def test_what_stands_along_ties_nothing(self):
        for size in SIZES:
            self.assertEqual(levels_of(table_of(rows_of_ties(size, (), 7))), (0,) * size)
            self.assertEqual(levels_of(table_of(rows_of_ties(size, ()))), (0,) * size)


class Squares(unittest.TestCase):
    def test_each_by_its_squares(self):
        for rows in levelled_rows():
            table = table_of(rows)
            found = squares_of(table)
            self.assertEqual((type(found), found[-1]), (tuple, ONE))
            self.assertNotEqual(found[0], NIL)
            spread = [NIL] * (2 * len(found) - 1)
            spread[::2] = found
            whole = polynomial_of(error_table(parting_of(table, ("each",))))
            self.assertEqual(whole, (NIL,) * (len(rows) - 2 * len(found) + 2) + tuple(spread))

    def test_behind_with_1_has_just_the_squares_and_0(self):
        for rows in levelled_rows():
            table = table_of(rows)
            found = squares_of(table=table)
            whole = polynomial_of(error_table(parting_of(table, ("behind", ONE))))
            self.assertEqual(whole, (NIL,) * (len(rows) + 1 - len(found)) + found)

    def test_known_ones(self):
        self.assertEqual(squares_of(table_of([[5]])), (ONE,))
        self.assertEqual(squares_of(table_of([[2, 3], [0, 5]])), (ONE,))
        self.assertEqual(squares_of(table_of([[2, 3], [4, 5]])), ((-6, 5), ONE))
        self.assertEqual(squares_of(table_of([[2, 3, 0], [4, 5, 1], [0, 5, -1]])), ((-1, 5), ONE))
        self.assertEqual(squares_of(table_of([[2, 3, 0], [4, 5, 1], [0, -6, -1]])), ((-12, 5), ONE))
        # The square of the one tie makes up for that of the other.
        self.assertEqual(squares_of(table_of([[1, 1, 0], [1, 1, 1], [0, -1, 1]])), (ONE,))


class BehindPolynomials(unittest.TestCase):
    def test_against_the_error_table(self):
        for seed, rows in enumerate(levelled_rows()):
            table = table_of(rows)
            for factor in FACTORS[:8] if seed % 3 == 0 else FACTORS[seed % 5:][:3]:
                found = behind_polynomial(table, pair_of(factor))
                wanted = polynomial_of(error_table(parting_of(table, ("behind", pair_of(factor)))))
                self.assertEqual(found, wanted)
                self.assertIs(type(found), tuple)

    def test_against_the_sum_of_the_document(self):
        for rows in list(levelled_rows())[::4]:
            table = table_of(rows)
            squares = [number(part) for part in squares_of(table)]
            count = len(squares) - 1
            for factor in FACTORS:
                total = [Fraction(0)]
                for at, square in enumerate(squares):
                    pulled = poly_power([Fraction(0), factor * factor], count - at)
                    lagged = poly_power([factor - 1, Fraction(1)], 2 * at)
                    total = poly_plus(total, [square * part for part in poly_times(lagged, pulled)])
                total = poly_times(total, poly_power([factor - 1, Fraction(1)], len(rows) - 2 * count))
                self.assertEqual(behind_polynomial(factor=pair_of(factor), table=table),
                                 tuple(pair_of(part) for part in total))


def pair_with(square):
    """Rows of two unknowns of which this is the square."""
    return [[Fraction(2), Fraction(square)], [Fraction(2), Fraction(1)]]


def decimal_best(square):
    """The best factor, 2 / (1 + the root of 1 - s), s being the greatest square."""
    square = Fraction(square)
    rest = 1 - square
    return 2 / (1 + (Decimal(rest.numerator) / Decimal(rest.denominator)).sqrt())


class Best(unittest.TestCase):
    MANY = (1, 2, 3, 10, 100, 999, 10 ** 6)

    def test_one_square(self):
        getcontext().prec = 80
        for square in (HALF, THIRD, Fraction(1, 4), Fraction(1, 10 ** 7), Fraction(10 ** 7 - 1, 10 ** 7), Fraction(2, 7),
                       Fraction(10 ** 40 - 1, 10 ** 40), Fraction(1, 10 ** 40), Fraction(8, 11)):
            for many in self.MANY:
                wanted = (int(decimal_best(square) * many), False)
                self.assertEqual(best_near(table_of(pair_with(square)), many), wanted, square)
                self.assertEqual(best_near(table_of(blocks(pair_with(square), single(3))), many), wanted)

    def test_best_factors_that_are_fractions(self):
        for top, divisor in ((1, 2), (1, 3), (3, 5), (5, 7), (998, 999), (1, 10 ** 5)):
            rest = Fraction(top, divisor)
            best = 2 / (1 + rest)
            table = table_of(pair_with(1 - rest * rest))
            for many in self.MANY + (best.denominator, 3 * best.denominator):
                if many <= 10 ** 6:
                    whole = best * many
                    found = best_near(many=many, table=table)
                    self.assertEqual(found, (whole.numerator // whole.denominator, whole.denominator == 1))
                    self.assertEqual([type(part) for part in found], [int, bool])

    def test_two_squares(self):
        getcontext().prec = 80
        known = {Fraction(3, 4): Fraction(4, 3), Fraction(8, 9): Fraction(3, 2)}
        for one, other in ((HALF, THIRD), (HALF, HALF), (Fraction(1, 100), Fraction(99, 100)), (Fraction(8, 9), THIRD),
                           (Fraction(3, 4), Fraction(3, 4)), (Fraction(3, 4), Fraction(3, 4) - Fraction(1, 10 ** 30))):
            rows = blocks(pair_with(one), pair_with(other))
            for table in (table_of(rows), table_of(blocks(rows, single(-2))), table_of(blocks(single(1), rows))):
                for many in self.MANY:
                    best = known.get(max(one, other)) or decimal_best(max(one, other))
                    whole = int(best * many)
                    self.assertEqual(best_near(table, many), (whole, whole == best * many))

    def test_squares_that_are_no_fractions(self):
        # x * x - 3 / 4 * x + 1 / 16: the greatest square is 3 / 8 and the root of 5 / 64.
        getcontext().prec = 80
        quarter = HALF * HALF
        rows = [[Fraction(1), quarter, Fraction(0), Fraction(0)], [Fraction(1), Fraction(1), quarter, Fraction(0)],
                [Fraction(0), Fraction(1), Fraction(1), quarter], [Fraction(0), Fraction(0), Fraction(1), Fraction(1)]]
        self.assertEqual(squares_of(table_of(rows)), ((1, 16), (-3, 4), ONE))
        square = Decimal(3) / 8 + (Decimal(5) / 64).sqrt()
        for many in self.MANY:
            wanted = int(2 / (1 + (1 - square).sqrt()) * many)
            self.assertEqual(best_near(table_of(rows), many), (wanted, False))

    def test_without_roots(self):
        for many in self.MANY:
            for table in ([[7]], [[1, 5], [0, 1]], [[1, 0], [5, -1]], [[1, 0, 2], [0, 3, 0], [0, 5, 1]]):
                self.assertEqual(best_near(table_of(table), many), (many, True))

    def test_none(self):
        bad = (Fraction(-1, 2), Fraction(2), Fraction(-3), Fraction(10 ** 30 + 1, 10 ** 30), Fraction(-1, 10 ** 30))
        for square in bad:
            self.assertIsNone(best_near(table_of(pair_with(square)), 10))
            self.assertIsNone(best_near(table_of(blocks(pair_with(square), single(1))), 10))
            for other in bad + (HALF,):
                self.assertIsNone(best_near(table_of(blocks(pair_with(square), pair_with(other))), 10))
                self.assertIsNone(best_near(table_of(blocks(pair_with(other), pair_with(square), single(2))), 10))

    def test_unreal_squares(self):
        # x * x - x / 4 + 1 / 16, then x * x - 2 x + 3 and x * x + 1 / 4.
        for first, second, third in ((Fraction(1, 4), Fraction(-1, 4), Fraction(1, 4)), (1, -2, 3), (HALF, -1, HALF)):
            rows = [[1, first, 0, 0], [1, 1, second, 0], [0, 1, 1, third], [0, 0, 1, 1]]
            self.assertEqual([number(part) for part in squares_of(table_of(rows))],
                             [first * third, -first - second - third, 1])
            self.assertIsNone(best_near(table_of(rows), 10))

    def test_squares_just_beside_a_double_one(self):
        # (x - s) ** 2 plus or minus something small: unreal squares, or real ones.
        for square in (THIRD, HALF, Fraction(4, 5), Fraction(1, 100)):
            for small in (Fraction(1, 10 ** 5), Fraction(1, 10 ** 40)):
                for rest in (small, Fraction(0), -small):
                    product = square * square + rest
                    first, third = HALF, 2 * product
                    rows = [[1, first, 0, 0], [1, 1, 2 * square - first - third, 0], [0, 1, 1, third], [0, 0, 1, 1]]
                    for table in (rows, blocks(rows, single(3))):
                        self.assertEqual([number(part) for part in squares_of(table_of(table))],
                                         [product, -2 * square, 1])
                        self.assertEqual(best_near(table_of(table), 7) is None, rest > 0)

    def test_positive_tables_have_one(self):
        told = 0
        for seed, rows in enumerate(levelled_rows()):
            table = [[part if at <= k else rows[k][at] for k, part in enumerate(row)] for at, row in enumerate(rows)]
            for at, row in enumerate(table):
                row[at] = Fraction(1 + seed % 3) + sum(abs(part) for k, part in enumerate(row) if k != at)
            table = table_of(table)
            self.assertIs(is_positive(table), True)
            low, is_just = best_near(table, 1000)
            self.assertTrue(1000 <= low < 2000)
            told += low > 1000
            self.check_best(table, Fraction(low, 1000), is_just)
        self.assertGreater(told, 30)

    def check_best(self, table, low, is_just):
        """Up to the best factor the size falls, from it on it is W - 1."""
        ways = [(factor, parting_of(table, ("behind", pair_of(factor))))
                for factor in (Fraction(1, 2), Fraction(1), low, low + Fraction(1, 1000), Fraction(199, 100))]
        self.assertTrue(all(does_die(parting) for _, parting in ways))
        for factor, parting in ways[3:]:
            if factor < 2 and factor > 1:
                self.assertEqual(rate_word(parting, parting_for(single(factor - 1))), "same")
        if low > 1:
            self.assertEqual(rate_word(ways[1][1], ways[0][1]), "quicker")
            self.assertEqual(rate_word(ways[2][1], ways[1][1]), "quicker")
            word = rate_word(ways[2][1], parting_for(single(low - 1)))
            self.assertEqual(word, "same" if is_just else "slower")

    def test_dies_exactly_between_0_and_2(self):
        for square in (HALF, Fraction(99, 100), Fraction(1, 100)):
            table = table_of(pair_with(square))
            for factor in FACTORS + (Fraction(1, 10 ** 9), 2 - Fraction(1, 10 ** 9), 2 + Fraction(1, 10 ** 9)):
                self.assertIs(does_die(parting_of(table, ("behind", pair_of(factor)))), 0 < factor < 2)

    def test_size_at_a_best_factor(self):
        # 2 / (1 + 1 / 2) is 4 / 3: the size is 1 / 3 there, and no less anywhere.
        table = table_of(pair_with(Fraction(3, 4)))
        self.assertEqual(best_near(table, 3), (4, True))
        best = parting_of(table, ("behind", (4, 3)))
        self.assertEqual((is_size_below(best, (1, 3)), is_size_below(best, (334, 999))), (False, True))
        for factor in (ONE, (5, 4), (133, 100), (67, 50), (3, 2), TWO):
            self.assertEqual(rate_word(best, parting_of(table, ("behind", factor))), "quicker")

    def test_big_numbers(self):
        big = 10 ** 199
        table = table_of(pair_with(Fraction(2 * big - 1, big * big)))
        self.assertEqual(best_near(table, 10 ** 6), (10 ** 6, False))
        table = table_of(pair_with(1 - Fraction(1, big * big)))
        self.assertEqual(best_near(table, 10 ** 6), (2 * 10 ** 6 - 1, False))


if __name__ == "__main__":
    unittest.main()
