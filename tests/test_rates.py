"""How fast errors die: the square of the size told near, amounts, and partings against one another."""
import unittest
from decimal import Decimal, getcontext
from fractions import Fraction
from itertools import combinations
from math import floor

from chosen import (
    HALF, THIRD, blocks, companion, jordan, parting_for, parting_with, poly_times, regular, single, turning)
from helpers import ONE, pair_of, table_of
from sweepends.dying import does_die
from sweepends.methods import parting_of
from sweepends.rates import is_size_below, rate_word, size_square_near

SIZES = (1, 2, 3, 4, 5)
MANY = (1, 2, 3, 7, 16, 36, 100, 900, 999983, 10 ** 6)
ROOT_TEN = Fraction(1, 10 ** 25)
# Rows with roots of which the square of the greatest size is a fraction.
KNOWN = [
    ([single(0)], 0), ([jordan(0, 5)], 0), ([single(HALF)], HALF ** 2), ([single(-HALF)], HALF ** 2),
    ([jordan(HALF, 4)], HALF ** 2), ([single(HALF), single(-HALF), single(THIRD)], HALF ** 2),
    ([turning(Fraction(3, 10), Fraction(4, 10))], HALF ** 2), ([turning(0, HALF), single(0)], HALF ** 2),
    ([turning(0, HALF), single(HALF), jordan(-HALF, 2)], HALF ** 2), ([turning(HALF, HALF)], HALF),
    ([turning(HALF, -HALF), turning(-HALF, HALF)], HALF), ([companion(-HALF, 0)], HALF),
    ([companion(-HALF, 0), turning(HALF, HALF), single(Fraction(7, 10))], HALF),
    ([companion(Fraction(1, 4), 0, 0, 0)], HALF),
    ([companion(-Fraction(1, 4), 0, 0, 0), single(THIRD)], HALF), ([single(-1)], 1), ([turning(0, 1), single(-1)], 1),
    ([companion(1, 1, 1, 1)], 1), ([companion(-2, 0)], 2), ([turning(1, 1), single(THIRD)], 2),
    ([single(2)], 4), ([single(-2), jordan(HALF, 4)], 4), ([turning(1, 3)], 10), ([single(10 ** 6)], 10 ** 12),
    ([single(HALF + ROOT_TEN)], (HALF + ROOT_TEN) ** 2), ([single(ROOT_TEN - HALF), single(0)], (HALF - ROOT_TEN) ** 2),
    ([companion(-HALF - ROOT_TEN, 0)], HALF + ROOT_TEN), ([single(THIRD)], THIRD ** 2),
    ([turning(THIRD, THIRD), single(Fraction(-1, 4))], Fraction(2, 9)),
    ([single(Fraction(1, 10 ** 200))], Fraction(1, 10 ** 400)),
]
KNOWN = [(blocks(*parts), Fraction(size)) for parts, size in KNOWN]


def known_partings():
    for seed, (rows, size) in enumerate(KNOWN):
        yield parting_for(rows), size
        yield parting_with(rows, seed), size


def surd_rows():
    """Rows of different numbers of unknowns, all with the size (1 / 2 + the root of 23 / 28) / 2, which is no fraction.
    """
    total, product = HALF, Fraction(-1, 7)
    squares = total * total - 2 * product
    one, other = companion(product, -total), companion(product, total)
    # The roots of one times 3 / 5 + 4 / 5 i and 3 / 5 - 4 / 5 i.
    turned = companion(product * product, Fraction(-6, 5) * product * total, squares + Fraction(36, 25) * product,
                       Fraction(-6, 5) * total)
    return [one, other, turned, blocks(turned, single(Fraction(1, 50))), blocks(one, one), blocks(one, other),
            blocks(other, one, single(THIRD)), blocks(single(0), other), blocks(one, turning(HALF, Fraction(1, 5)))]


class Near(unittest.TestCase):
    def test_known_sizes(self):
        for parting, size in known_partings():
            for many in MANY:
                wanted = (floor(size * many), (size * many).denominator == 1)
                found = size_square_near(parting, many)
                self.assertEqual(found, wanted)
                self.assertEqual([type(part) for part in found], [int, bool])

    def test_by_name(self):
        parting = parting_with(turning(HALF, HALF), 3)
        self.assertEqual(size_square_near(many=4, parting=parting), (2, True))
        self.assertEqual(size_square_near(parting=parting, many=5), (2, False))
        self.assertEqual(size_square_near(parting, 10 ** 6), (500000, True))

    def test_sizes_of_0(self):
        for size in SIZES:
            for many in MANY:
                for seed in (1, 2):
                    self.assertEqual(size_square_near(parting_with(jordan(0, size), seed), many), (0, True))
                    table = table_of(regular(size, seed))
                    self.assertEqual(size_square_near((table, table), many), (0, True))
        self.assertEqual(size_square_near(parting_for(single(Fraction(1, 10 ** 9))), 10 ** 6), (0, False))

    def test_just_beside_a_part(self):
        for size in (1, 3):
            for many in (1, 7, 10 ** 6):
                for number in (1, 2, 10):
                    exact = Fraction(number, many)
                    for square, wanted in ((exact, (number, True)), (exact - ROOT_TEN, (number - 1, False)),
                                           (exact + ROOT_TEN, (number, False))):
                        # No error table has the root 1.
                        first = companion(square, 0) if square == 1 else companion(-square, 0)
                        parts = [first, single(0), turning(0, exact / (1 + many + number))][:size]
                        self.assertEqual(size_square_near(parting_with(blocks(*parts), 2), many), wanted)

    def test_a_lesser_root_that_is_a_part(self):
        # 1 / 2 is the square of a root here, but not of the greatest one.
        rows = blocks(companion(-HALF, 0), single(Fraction(75, 100)))
        self.assertEqual(size_square_near(parting_with(rows, 1), 2), (1, False))
        self.assertEqual(size_square_near(parting_with(rows, 1), 16), (9, True))
        # The product of two roots is 1 / 2, but their sizes are not the root of it.
        self.assertEqual(size_square_near(parting_with(blocks(single(Fraction(5, 8)), single(Fraction(4, 5))), 1), 2),
                         (1, False))

    def test_surds(self):
        getcontext().prec = 60
        size = (Decimal(1) / 2 + (Decimal(23) / 28).sqrt()) / 2
        for seed, rows in enumerate(surd_rows()):
            for many in MANY:
                wanted = (int(size * size * many), False)
                self.assertEqual(size_square_near(parting_with(rows, seed), many), wanted)

    def test_against_amounts(self):
        for size in SIZES:
            for seed in range(15):
                parting = (table_of(regular(size, seed, 6)), table_of(regular(size, seed + 100, 6)))
                for number, divisor in ((1, 1), (1, 2), (3, 2), (7, 3), (22, 7), (355, 113), (1, 1000), (999, 1000)):
                    near, _ = size_square_near(parting, divisor * divisor)
                    self.assertIs(is_size_below(parting, (number, divisor)), near < number * number)
                self.assertIs(is_size_below(parting, ONE), does_die(parting))

    def test_big_numbers(self):
        big = 10 ** 399
        self.assertEqual(size_square_near(parting_for(single(big)), 3), (3 * big * big, True))
        self.assertEqual(size_square_near(parting_for(turning(big, -1)), 1), (big * big + 1, True))
        self.assertEqual(size_square_near(parting_for(single(Fraction(big + 1, big))), 10 ** 6), (10 ** 6, False))
        self.assertEqual(size_square_near(parting_for(single(Fraction(1 - big, big))), 10 ** 6), (10 ** 6 - 1, False))


class Below(unittest.TestCase):
    def test_known_sizes(self):
        amounts = [Fraction(number, divisor) for number, divisor in (
            (1, 2), (1, 3), (1, 1), (2, 1), (7, 10), (71, 100), (5, 7), (10 ** 6, 1), (1, 10 ** 6), (3, 1), (16, 5))]
        amounts += [part + other for part in amounts[:4] for other in (ROOT_TEN, -ROOT_TEN)]
        amounts += [Fraction(1, 10 ** 200), Fraction(1, 10 ** 200) + Fraction(1, 10 ** 380), Fraction(10 ** 399)]
        for parting, size in known_partings():
            for amount in amounts:
                self.assertIs(is_size_below(parting, pair_of(amount)), size < amount * amount)

    def test_equal_sizes_are_not_below(self):
        for amount in (HALF, THIRD, Fraction(1), Fraction(22, 7), Fraction(10 ** 50 + 1, 10 ** 50)):
            for rows in (single(-amount), turning(0, amount), turning(amount * 3 / 5, amount * 4 / 5),
                         jordan(-amount, 4), blocks(single(-amount), turning(amount * 5 / 13, amount * 12 / 13))):
                parting = parting_with(rows, 4)
                self.assertIs(is_size_below(parting, pair_of(amount)), False)
                self.assertIs(is_size_below(parting, pair_of(amount - ROOT_TEN)), False)
                self.assertIs(is_size_below(fraction=pair_of(amount + ROOT_TEN), parting=parting), True)

    def test_sizes_of_0_are_below_all(self):
        for size in SIZES:
            self.assertIs(is_size_below(parting_with(jordan(0, size), 5), (1, 10 ** 399)), True)

    def test_surds(self):
        for rows in surd_rows():
            self.assertIs(is_size_below(parting_with(rows, 1), (703163, 10 ** 6)), False)
            self.assertIs(is_size_below(parting_with(rows, 1), (175791, 250000)), True)


class Words(unittest.TestCase):
    def compare(self, one, other, wanted):
        mirrored = {"quicker": "slower", "slower": "quicker", "same": "same"}
        self.assertEqual(rate_word(one, other), wanted)
        self.assertEqual(rate_word(other, one), mirrored[wanted])

    def test_known_sizes(self):
        told = list(known_partings())
        for (one, size), (other, beside) in combinations(told, 2):
            self.compare(one, other, "same" if size == beside else "quicker" if size < beside else "slower")

    def test_against_itself(self):
        for parting, _ in list(known_partings())[::3]:
            self.assertEqual(rate_word(parting=parting, other=parting), "same")

    def test_surds_of_different_roots(self):
        partings = [parting_with(rows, seed) for seed, rows in enumerate(surd_rows())]
        for one, other in combinations(partings, 2):
            self.compare(one, other, "same")
        near = Fraction(1, 10 ** 70)
        quick = parting_with(companion(near - Fraction(1, 7), HALF), 3)
        slow = parting_with(blocks(companion(-near - Fraction(1, 7), HALF), single(HALF)), 4)
        for parting in partings:
            self.compare(quick, parting, "quicker")
            self.compare(slow, parting, "slower")
        self.compare(quick, slow, "quicker")

    def test_cubic_roots(self):
        # The roots of x ** 3 = 2 / 5 against the same ones with the other sign, and against powers of them.
        cubic, mirrored = companion(Fraction(-2, 5), 0, 0), companion(Fraction(2, 5), 0, 0)
        partings = [parting_with(rows, 5) for rows in (
            cubic, mirrored, blocks(cubic, single(HALF)), blocks(mirrored, single(0), single(0)))]
        for one, other in combinations(partings, 2):
            self.compare(one, other, "same")
        self.compare(partings[0], parting_with(companion(Fraction(-2, 5) - ROOT_TEN, 0, 0), 6), "quicker")
        self.compare(partings[2], parting_with(single(Fraction(7368062997, 10 ** 10)), 6), "slower")
        self.compare(partings[3], parting_with(single(Fraction(7368062998, 10 ** 10)), 6), "quicker")

    def test_products_of_surds(self):
        # The polynomial of all pairs has the greatest root once, twice or more often.
        rows = companion(*poly_times([-HALF, 0, 1], [-Fraction(3, 10), 0, 1])[:-1])
        for other in (companion(-HALF, 0), turning(HALF, -HALF), blocks(companion(-HALF, 0), companion(-HALF, 0)),
                      blocks(turning(HALF, HALF), companion(HALF, 1), single(-HALF))):
            self.compare(parting_with(rows, 1), parting_with(other, 2), "same")

    def test_methods(self):
        table = table_of([[4, -1, -1], [-1, 4, -1], [-1, -1, 4]])
        ways = [parting_of(table, method) for method in (("each",), ("behind", ONE), ("back", ONE), ("behind", (1, 2)))]
        self.compare(ways[1], ways[0], "quicker")
        self.compare(ways[1], ways[2], "same")
        self.compare(ways[3], ways[0], "slower")
        self.compare((table, table), ways[1], "quicker")

    def test_big_numbers(self):
        big = 10 ** 399
        one, other = parting_for(single(Fraction(big - 1, big))), parting_for(single(Fraction(1 - big, big)))
        self.compare(one, other, "same")
        self.compare(one, parting_for(single(Fraction(big, big + 1))), "quicker")
        self.compare(parting_for(single(big)), parting_for(turning(0, big)), "same")
        self.compare(parting_for(single(big)), parting_for(turning(1, big)), "quicker")


if __name__ == "__main__":
    unittest.main()
