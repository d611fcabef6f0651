"""Tables within bounds: whether all are inverse positive, where their solutions are, and late runs of all of them."""
import unittest
from fractions import Fraction
from itertools import product as all_of
from random import Random

from chosen import minus_rows, one_rows, parting_for
from helpers import (
    NIL, ODD_FRACTIONS, ODD_VALUES, ONE, TWO, Prickly, det, made_row, made_rows, number, numbers, one_table, row_of,
    table_of, times_row)
from sweepends.bounds import are_inverses_positive, failing_table, is_bounds, late_amounts_within, solution_range
from sweepends.inverses import is_inverse_positive
from sweepends.late import boxing_amounts
from sweepends.partings import solution

SIZES = (1, 2, 3, 4, 5)
TINY = Fraction(1, 10 ** 30)


def positive_rows(size, seed):
    """Rows that are below and inverse positive: what stands along them is more than all beside it."""
    chance = Random(size * 50 + seed)
    rows = [[-abs(part) if chance.random() < 0.7 else Fraction(0) for part in row] for row in made_rows(size, seed, 3)]
    for at in range(size):
        rows[at][at] = 0
        rows[at][at] = Fraction(1, 1 + seed % 7) - sum(rows[at])
    return rows


def raised(rows, seed, share=1):
    """Rows no number of which is below that of the others."""
    chance = Random(seed)
    return [[part + Fraction(chance.randint(0, 3) * share, 4) for part in row] for row in rows]


def chosen_bounds():
    for size in SIZES:
        for seed in range(24):
            low = positive_rows(size, seed)
            high = [[part if part == 0 else part * Fraction(seed % 4, 3) for part in row] for row in low]
            for at in range(size):
                high[at][at] = low[at][at] + (seed % 3)
            yield low, high
            yield low, raised(low, seed)
            yield low, low
            yield low, raised(low, seed, Fraction(1, 8))
            yield made_rows(size, seed), raised(made_rows(size, seed), seed)
            yield [[part - (at == k) * 2 for k, part in enumerate(row)] for at, row in enumerate(low)], high


def drawn_within(low, high, seed):
    chance = Random(seed)
    return [[one + (other - one) * chance.choice((0, 1, Fraction(1, 2), Fraction(chance.randint(0, 9), 9)))
             for one, other in zip(row, line)] for row, line in zip(low, high)]


class IsBounds(unittest.TestCase):
    def test_around_one_number(self):
        for size in SIZES:
            for seed in range(4):
                rows = made_rows(size, seed)
                table = table_of(rows)
                self.assertIs(is_bounds((table, table)), True)
                for at, k in all_of(range(size), repeat=2):
                    for extra in (TINY, -TINY, Fraction(1)):
                        changed = [list(row) for row in rows]
                        changed[at][k] += extra
                        self.assertIs(is_bounds((table, table_of(changed))), extra > 0)
                        self.assertIs(is_bounds(value=(table_of(changed), table)), extra < 0)

    def test_any_values(self):
        table = table_of([[2, -1], [-1, 2]])
        for odd in ODD_VALUES + ODD_FRACTIONS:
            for wrong in (odd, (odd, table), (table, odd), (odd, odd), (table, table, odd), (table, (table[0], odd)),
                          (table, ((ONE, odd), table[1]))):
                self.assertIs(is_bounds(wrong), False)
        for wrong in ([table, table], (table, one_table(3)), (one_table(1), table), (table,), table, (Prickly(), table),
                      (table, list(table)), (table, table[:1]), (table, table + table[:1]), ((), ()),
                      (one_table(6), one_table(6))):
            self.assertIs(is_bounds(wrong), False)

    def test_without_an_inverse(self):
        flat = table_of([[1, 1], [1, 1]])
        self.assertIs(is_bounds((flat, flat)), True)
        self.assertIs(is_bounds((table_of([[0, 0], [0, 0]]), flat)), True)
        self.assertIs(is_bounds((flat, table_of([[0, 0], [0, 0]]))), False)

    def test_big_numbers(self):
        big = 10 ** 399
        one, other = (((big - 1, big),),), (((big, big + 1),),)
        self.assertIs(is_bounds((one, other)), True)
        self.assertIs(is_bounds((other, one)), False)
        self.assertIs(is_bounds(((((-big, 1),),), (((big, 1),),))), True)


class AllWithin(unittest.TestCase):
    def test_drawn_tables(self):
        told = []
        for at, (low, high) in enumerate(chosen_bounds()):
            bounds = (table_of(low), table_of(high))
            found, failing = are_inverses_positive(bounds), failing_table(bounds)
            told.append(found)
            self.assertIs(found, is_inverse_positive(bounds[0]) and is_inverse_positive(bounds[1]))
            self.assertEqual(failing is None, found)
            if found:
                least, most = [self.turned(rows) for rows in (high, low)]
                for seed in range(3):
                    rows = drawn_within(low, high, at + seed)
                    self.assertIs(is_inverse_positive(table_of(rows)), True)
                    for row, line, other in zip(self.turned(rows), least, most):
                        self.assertTrue(all(one <= part <= more for part, one, more in zip(row, line, other)))
            else:
                self.assertIs(is_inverse_positive(failing), False)
                self.assertIs(is_bounds((bounds[0], failing)) and is_bounds((failing, bounds[1])), True)
        self.assertGreater(told.count(True), 150)
        self.assertGreater(told.count(False), 150)

    def turned(self, rows):
        size = len(rows)
        units = [solution(table_of(rows), row) for row in one_table(size)]
        return [[number(units[k][at]) for k in range(size)] for at in range(size)]

    def test_just_one_of_both_fails(self):
        good, flat, foes = table_of([[2, -1], [-1, 2]]), table_of([[2, -2], [-2, 2]]), table_of([[1, -2], [-2, 1]])
        over = table_of([[2, 1], [1, 2]])
        for bounds, failing in (((flat, good), flat), ((foes, good), foes), ((good, over), over), ((good, good), None)):
            self.assertIs(are_inverses_positive(bounds=bounds), failing is None)
            self.assertEqual(failing_table(bounds=bounds), failing)
        both = failing_table((foes, over))
        self.assertIs(is_inverse_positive(both), False)
        # Tables that are not below count as well: their inverses have no number below 0.
        turned = table_of([[0, 1], [1, 0]])
        self.assertIs(are_inverses_positive((turned, turned)), True)
        lower = table_of([[-TINY, 1], [1, -TINY]])
        self.assertIs(are_inverses_positive((lower, turned)), True)
        self.assertIs(are_inverses_positive((lower, table_of([[TINY, 1], [1, 0]]))), False)


class Ranges(unittest.TestCase):
    def check(self, low, high, least, most):
        """All solutions are within, both ends are taken, and so is what is between."""
        bounds = (table_of(low), table_of(high))
        ends = solution_range(bounds, row_of(least), row_of(most))
        self.assertEqual([type(ends), len(ends)], [tuple, 2])
        one, other = numbers(ends)
        self.assertEqual(ends, (row_of(one), row_of(other)))
        for seed in range(5):
            chance = Random(seed)
            rows = drawn_within(low, high, seed)
            right = [first + (second - first) * Fraction(chance.randint(0, 4), 4) for first, second in zip(least, most)]
            found = numbers([solution(table_of(rows), row_of(right))])[0]
            self.assertTrue(all(first <= part <= second for first, part, second in zip(one, found, other)))
        corners = [numbers([solution(table, row_of(right))])[0] for table in bounds for right in (least, most)]
        for at in range(len(low)):
            self.assertEqual(one[at], min(corner[at] for corner in corners))
            self.assertEqual(other[at], max(corner[at] for corner in corners))
        return ends

    def test_drawn_systems(self):
        checked = 0
        for seed, (low, high) in enumerate(chosen_bounds()):
            if not are_inverses_positive((table_of(low), table_of(high))):
                continue
            size = len(low)
            one = [abs(part) for part in made_row(size, seed)]
            more = [abs(part) for part in made_row(size, seed + 1)]
            noughts = [Fraction(0)] * size
            both = [part + other for part, other in zip(one, more)]
            down, twice = [-part for part in one], [-part for part in both]
            for least, most in ((one, both), (twice, down), (down, more), (noughts, more), (down, noughts),
                                (noughts, noughts), (one, one), (down, down)):
                self.check(low, high, least, most)
                checked += 1
        self.assertGreater(checked, 800)

    def test_other_right_sides(self):
        for seed, (low, high) in enumerate(chosen_bounds()):
            bounds = (table_of(low), table_of(high))
            size = len(low)
            if size == 1 or seed % 3 or not are_inverses_positive(bounds):
                continue
            for at in range(size):
                least = [Fraction(1)] * size
                most = [Fraction(2)] * size
                least[at] = Fraction(-1)
                self.assertIsNone(solution_range(bounds, row_of(least), row_of(most)))
                least = [-part for part in most]
                most = [Fraction(-1)] * size
                most[at] = TINY
                self.assertIsNone(solution_range(bounds, row_of(least), row_of(most)))
                least[at] = TINY
                self.assertIsNone(solution_range(bounds, row_of(least), row_of(most)))
            mixed = row_of([1, -1] + [0] * (size - 2))
            self.assertIsNone(solution_range(low=mixed, bounds=bounds, high=mixed))

    def test_one_unknown(self):
        bounds = (table_of([[2]]), table_of([[4]]))
        for least, most, wanted in ((1, 2, (Fraction(1, 4), 1)), (-2, -1, (-1, Fraction(-1, 4))),
                                    (-2, 6, (-1, 3)), (0, 0, (0, 0)), (0, 2, (0, 1)), (-2, 0, (-1, 0))):
            found = solution_range(bounds, row_of([least]), row_of([most]))
            self.assertEqual(found, (row_of(wanted[:1]), row_of(wanted[1:])))

    def test_no_positive_tables(self):
        for least, most in ((row_of([1, 1]), row_of([2, 2])), (row_of([1, -1]), row_of([1, -1]))):
            for bounds in ((table_of([[1, -2], [-2, 1]]), table_of([[2, -1], [-1, 2]])),
                           (table_of([[2, -1], [-1, 2]]), table_of([[2, TINY], [-1, 2]]))):
                with self.assertRaises(ValueError) as caught:
                    solution_range(bounds, least, most)
                self.assertEqual(caught.exception.__class__.__name__, "NotPositive")


class LateWithin(unittest.TestCase):
    def test_by_the_greater_sizes(self):
        told = []
        for size in SIZES:
            for seed in range(60):
                low = [[part / (1 + size * (seed % 6)) for part in row] for row in made_rows(size, seed, 3)]
                high = raised(low, seed, Fraction(1, 1 + seed % 8))
                sizes = [[max(abs(one), abs(other)) for one, other in zip(row, line)] for row, line in zip(low, high)]
                found = late_amounts_within((table_of(low), table_of(high)))
                told.append(found is not None)
                if found is None:
                    # Just then the greater sizes have a root from 1 on.
                    one = minus_rows(one_rows(size), sizes)
                    if det(one) != 0:
                        self.assertIsNone(boxing_amounts(parting_for(sizes)))
                    continue
                row = [number(part) for part in found]
                self.assertEqual(found, row_of(row))
                self.assertTrue(all(part > 0 for part in row))
                self.assertTrue(all(one < part for one, part in zip(times_row(sizes, row), row)))
                for extra in range(3):
                    rows = drawn_within(low, high, seed + extra)
                    if det(minus_rows(one_rows(size), rows)) != 0:
                        self.assertIsNotNone(boxing_amounts(parting_for(rows)))
        self.assertGreater(told.count(True), 50)
        self.assertGreater(told.count(False), 50)

    def test_known_ones(self):
        for low, high, does in ((-1, 0, False), (-1 + TINY, 1 - TINY, True), (0, 0, True), (0, 1, False), (0, 2, False),
                                (-2, Fraction(1, 2), False), (Fraction(-1, 2), Fraction(1, 3), True)):
            bounds = (table_of([[low]]), table_of([[high]]))
            self.assertIs(late_amounts_within(bounds=bounds) is not None, does)
        # 1 may be a root of some table within, and the bounds are no parting's.
        self.assertIsNone(late_amounts_within((one_table(2), one_table(2))))
        half = Fraction(1, 2)
        self.assertIsNone(late_amounts_within((table_of([[-half, 0], [0, 0]]), table_of([[0, half], [half, half]]))))
        self.assertIsNotNone(late_amounts_within((table_of([[-half, 0], [0, 0]]), table_of([[0, 9], [0, half]]))))
        self.assertIsNotNone(late_amounts_within((table_of([[0] * 5] * 5),) * 2))

    def test_by_the_words(self):
        low, third = table_of([[0, -2], [0, 0]]), Fraction(1, 3)
        self.assertIsNone(late_amounts_within((low, table_of([[0, 0], [1, 0]]))))
        self.assertIsNotNone(late_amounts_within((low, table_of([[0, 0], [third, 0]]))))
        self.assertEqual([is_bounds(((NIL, ONE), (ONE, TWO))), is_bounds((((NIL,),), ((ONE,),)))], [False, True])


if __name__ == "__main__":
    unittest.main()
