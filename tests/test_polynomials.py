"""Polynomials of whole numbers: roots within, seen from elsewhere, shared, once each; and the greatest real root."""
import unittest
from decimal import Decimal, getcontext
from fractions import Fraction
from itertools import combinations_with_replacement
from math import floor, lcm

from chosen import from_roots, poly_power, poly_times
from helpers import fraction_maker
from sweepends.polynomials import (
    all_roots_once, divided, is_within, lowered_terms, multiplied_out, remainder, roots_once, scaled, shared_part,
    shifted, size_bits, slope, with_lead_one)
from sweepends.roots import floor_root, is_root_below, is_root_upto, most_roots, root_order

# Parts of polynomials, each with the square of the size of its roots.
PARTS = [
    ([0, 1], 0), ([-1, 2], Fraction(1, 4)), ([2, 3], Fraction(4, 9)), ([-1, 1], 1), ([1, 1], 1),
    ([-3, 2], Fraction(9, 4)), ([1, 0, 1], 1), ([5, -6, 5], 1), ([1, 1, 1], 1), ([1, -2, 2], Fraction(1, 2)),
    ([8, 4, 9], Fraction(8, 9)),
    ([-1, 0, 2], Fraction(1, 2)), ([2, 2, 1], 2), ([10, 1, 9], Fraction(10, 9)),
]


def whole(part):
    share = lcm(*[Fraction(number).denominator for number in part])
    return [int(number * share) for number in part]


def products():
    """Products of up to three of the parts, with the greatest square of a size."""
    for count in (1, 2, 3):
        for chosen in combinations_with_replacement(PARTS, count):
            found = [1]
            for part, _ in chosen:
                found = multiplied_out(found, part)
            yield found, max(size for _, size in chosen)


class Within(unittest.TestCase):
    def test_no_root(self):
        for number in (1, -1, 7, -10 ** 50):
            self.assertIs(is_within([number]), True)

    def test_one_root(self):
        for low in range(-4, 5):
            for lead in (-3, -2, -1, 1, 2, 3):
                self.assertIs(is_within([low, lead]), abs(low) < abs(lead))

    def test_products_of_known_parts(self):
        for numbers, size in products():
            for sign in (1, -1, 6):
                self.assertIs(is_within([sign * number for number in numbers]), size < 1, numbers)

    def test_the_same_root_many_times(self):
        for count in range(1, 16):
            for root, is_in in ((0, True), (Fraction(1, 2), True), (Fraction(-99, 100), True), (1, False), (-1, False),
                                (Fraction(101, 100), False), (Fraction(999999, 1000000), True)):
                self.assertIs(is_within(whole(poly_power([-Fraction(root), 1], count))), is_in)
            self.assertIs(is_within(whole(poly_power([1, 0, 1], count))), False)
            self.assertIs(is_within(whole(poly_power([Fraction(99, 100), 0, 1], count))), True)

    def test_one_root_of_many_is_not_within(self):
        for count in range(0, 10):
            for root in (1, -1, 2, Fraction(-11, 10)):
                small = [Fraction(at - 4, 11) for at in range(count)]
                self.assertIs(is_within(whole(from_roots(small))), True)
                self.assertIs(is_within(whole(from_roots(small + [root]))), False)
        self.assertIs(is_within([1, 0, 0, 0, 2]), True)
        self.assertIs(is_within([2, 0, 0, 0, 1]), False)
        self.assertIs(is_within([1, 0, 0, 0, 1]), False)


class Arithmetic(unittest.TestCase):
    def polynomials(self):
        make = fraction_maker(5, 9)
        for size in range(1, 8):
            for _ in range(6):
                roots = [make() for _ in range(size)]
                yield roots, whole(from_roots(roots))

    def test_scaled(self):
        for roots, numbers in self.polynomials():
            for up, down in ((1, 1), (2, 1), (1, 3), (5, 7)):
                wanted = from_roots([root * up / down for root in roots])
                self.assertEqual(with_lead_one(scaled(numbers, up, down)),
                                 tuple((part.numerator, part.denominator) for part in wanted))
        self.assertEqual(scaled([3, 4, 5], 2, 10), [12, 80, 500])

    def test_shifted(self):
        for roots, numbers in self.polynomials():
            for by in (0, 1, -2, 9):
                wanted = [number * numbers[-1] for number in from_roots([root - by for root in roots])]
                self.assertEqual(shifted(numbers, by), wanted)
                self.assertEqual(numbers, whole(from_roots(roots)))

    def test_slope(self):
        self.assertEqual(slope([5, 3, 4, 2]), [3, 8, 6])
        self.assertEqual(slope([5]), [])

    def test_lowered_terms(self):
        self.assertEqual(lowered_terms([4, 0, -6]), [-2, 0, 3])
        self.assertEqual(lowered_terms([0, 5]), [0, 1])
        self.assertEqual(lowered_terms([]), [])

    def test_shared_parts(self):
        for one in (from_roots([]), from_roots([1, 1, 2]), from_roots([Fraction(1, 2)]), poly_power([2, 0, 1], 2)):
            for other in (from_roots([3]), from_roots([5, 5, -7]), from_roots([0])):
                for third in (from_roots([4]), from_roots([-9, Fraction(2, 3)])):
                    left, right = whole(poly_times(one, other)), whole(poly_times(one, third))
                    self.assertEqual(shared_part(left, right), lowered_terms(whole(one)))
                    self.assertEqual(divided(lowered_terms(left), lowered_terms(whole(one))),
                                     lowered_terms(whole(other)))
        self.assertEqual(shared_part([2, 4], []), [1, 2])
        self.assertEqual(remainder([2, 4, 1], [1]), [])

    def test_roots_once(self):
        for first, second in (([1, 1, 2], [2, 3]), ([0, 0, 0], [0]), ([Fraction(1, 2)] * 4 + [-1] * 2, [-1, -1]),
                              ([5], [6]), ([], [1, 1])):
            once = from_roots(sorted({Fraction(root) for root in first}))
            self.assertEqual(roots_once(whole(from_roots(first))), whole(once))
            both = from_roots(sorted({Fraction(root) for root in first + second}))
            self.assertEqual(all_roots_once(whole(from_roots(first)), whole(from_roots(second))), whole(both))


class GreatestRoot(unittest.TestCase):
    # The greatest root, then others of no greater size.
    LISTS = [[0], [0, 0, 0], [1], [Fraction(7, 2)], [5, -5], [5, 5, 5, 1], [Fraction(21, 4), -5, 5, 3, Fraction(1, 9)],
             [10 ** 9, 1 - 10 ** 9], [Fraction(1, 10 ** 9)], [Fraction(3, 7)] * 15, [6, 6, -6, Fraction(59, 10)]]

    def test_real_roots(self):
        for roots in self.LISTS:
            numbers, most = whole(from_roots(roots)), Fraction(roots[0])
            self.assertEqual(floor_root(numbers), floor(most))
            self.assertGreater(1 << size_bits(numbers), most)
            for bound in (floor(most) - 1, floor(most), floor(most) + 1):
                self.assertIs(is_root_below(numbers, bound), most < bound)
                self.assertIs(is_root_upto(numbers, bound), most <= bound)

    def test_with_unreal_roots_of_the_same_size(self):
        for size in (1, 2, 5, 25):
            numbers = multiplied_out([-size, 1], [size * size, -size, 1])
            for count in (1, 2, 3):
                self.assertEqual(floor_root(numbers), size)
                self.assertIs(is_root_below(numbers, size), False)
                self.assertIs(is_root_upto(numbers, size), True)
                numbers = multiplied_out(numbers, [size, 1])

    def test_surds(self):
        getcontext().prec = 60
        for square in (2, 3, 5, 10 ** 12 + 1, 10 ** 40 - 1):
            numbers = [-square, 0, 1]
            self.assertEqual(floor_root(numbers), int(Decimal(square).sqrt()))
            self.assertEqual(floor_root(multiplied_out(numbers, numbers)), int(Decimal(square).sqrt()))

    def test_bits_hold_all_sizes(self):
        for numbers, size in products():
            self.assertGreater((1 << size_bits(numbers)) ** 2, size)
        self.assertEqual(size_bits([3]), 1)

    def test_order(self):
        for first in self.LISTS:
            for second in self.LISTS:
                wanted = (first[0] > second[0]) - (first[0] < second[0])
                self.assertEqual(root_order(whole(from_roots(first)), whole(from_roots(second))), wanted)

    def test_order_of_surds(self):
        one, other = [-2, 0, 1], [-2 * 10 ** 100 - 1, 0, 10 ** 100]
        self.assertEqual((root_order(one, other), root_order(other, one)), (-1, 1))
        for third in (multiplied_out(one, [1, 1]), multiplied_out(one, one), multiplied_out(one, [2, 1, 1])):
            self.assertEqual((root_order(one, third), root_order(third, one)), (0, 0))
            self.assertEqual((root_order(third, other), root_order(other, third)), (-1, 1))

    def test_most_roots(self):
        self.assertEqual([most_roots(part) for part in ([0, 1], [1, 1], [-1, 1], [0, -1, 1], [2, -3, 1], [1, 0, 1])],
                         [1, 0, 1, 2, 2, 0])


if __name__ == "__main__":
    unittest.main()
