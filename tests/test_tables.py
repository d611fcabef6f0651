"""Tables: what is one, products, inverses, symmetric and positive ones, their forms and their polynomials."""
import unittest
from fractions import Fraction
from itertools import product as all_of

from helpers import (
    HALF, LESS, NIL, ODD_FRACTIONS, ODD_VALUES, ONE, TWO, det, form, gram_rows, made_row, made_rows, nested, number,
    numbers, one_table, pair_of, row_of, singular_rows, symmetric_rows, table_of, times, worth)
from sweepends.errors import NotSymmetric
from sweepends.tables import (
    determinant, form_at, inverse, is_positive, is_symmetric, is_table, low_row, polynomial_of, product, turned)

SIZES = (1, 2, 3, 4, 5)
SEEDS = range(12)


def all_rows():
    for size in SIZES:
        for seed in SEEDS:
            yield made_rows(size, seed)
            yield made_rows(size, seed, 1)
            yield singular_rows(size, seed)
        yield [[Fraction(0)] * size for _ in range(size)]
        yield [[Fraction(int(at + k == size - 1)) for k in range(size)] for at in range(size)]
        yield [[Fraction(10 ** 30 + at * k, 10 ** 20 + at + 3 * k) for k in range(size)] for at in range(size)]


def all_symmetric():
    for size in SIZES:
        for seed in SEEDS:
            yield symmetric_rows(size, seed)
            for rank in range(size + 2):
                yield gram_rows(size, rank, seed)
        yield [[Fraction(0)] * size for _ in range(size)]
        yield [[Fraction(int(at + k == size - 1)) for k in range(size)] for at in range(size)]
        yield [[Fraction(int(at != k)) for k in range(size)] for at in range(size)]
        yield [[Fraction((at == k) * (-1) ** at) for k in range(size)] for at in range(size)]


def small_symmetric():
    """All symmetric rows of few whole numbers, and some of them over other numbers."""
    for one, beside, other in all_of(range(-3, 4), repeat=3):
        yield [[one, beside], [beside, other]]
    for a, b, c, d, e, f in all_of((-1, 0, 1), repeat=6):
        yield [[a, b, c], [b, d, e], [c, e, f]]
        yield [[Fraction(part, 3 + at + k) for k, part in enumerate(row)]
               for at, row in enumerate([[a, b, c], [b, d, e], [c, e, f]])]


def is_above(rows):
    return all(det([row[:count] for row in rows[:count]]) > 0 for count in range(1, len(rows) + 1))


class WhatIsATable(unittest.TestCase):
    def test_tables(self):
        for rows in all_rows():
            self.assertIs(is_table(table_of(rows)), True)
        self.assertIs(is_table((((0, 1),),)), True)
        self.assertIs(is_table((((10 ** 399 + 1, 10 ** 399),),)), True)
        self.assertIs(is_table(table_of([[Fraction(-1, 3)]])), True)

    def test_odd_values(self):
        for value in ODD_VALUES + ODD_FRACTIONS:
            self.assertIs(is_table(value), False)
        for depth in range(15):
            self.assertIs(is_table(nested(depth)), False)

    def test_odd_numbers_anywhere(self):
        for size in SIZES:
            for at in range(size):
                for odd in ODD_FRACTIONS + ODD_VALUES:
                    rows = [list(row) for row in one_table(size)]
                    rows[at][size - 1 - at] = odd
                    self.assertIs(is_table(tuple(tuple(row) for row in rows)), False)

    def test_odd_rows_anywhere(self):
        for size in SIZES:
            whole = one_table(size)
            for at in range(size):
                row = whole[at]
                for odd in ODD_VALUES + (list(row), row[:-1], row + (NIL,), {0: ONE}, dict(enumerate(row))):
                    self.assertIs(is_table(whole[:at] + (odd,) + whole[at + 1:]), False)
            self.assertIs(is_table(list(whole)), False)
            self.assertIs(is_table([list(row) for row in whole]), False)

    def test_number_of_rows(self):
        self.assertIs(is_table(()), False)
        self.assertIs(is_table(((),)), False)
        for size in (6, 7, 40):
            self.assertIs(is_table(one_table(size)), False)
        for size in SIZES:
            self.assertIs(is_table(one_table(size)[1:]), False)
            self.assertIs(is_table(one_table(size) + one_table(size)[:1]), False)
        self.assertIs(is_table(one_table(6)[:5]), False)
        self.assertIs(is_table(tuple(row[:5] for row in one_table(6))), False)

    def test_by_name(self):
        self.assertIs(is_table(value=one_table(3)), True)


class Products(unittest.TestCase):
    def test_product(self):
        for size in SIZES:
            for seed in SEEDS:
                one, other = made_rows(size, seed), made_rows(size, seed + 50)
                self.assertEqual(product(table_of(one), table_of(other)), table_of(times(one, other)))
                self.assertEqual(product(table_of(one), table_of(one)), table_of(times(one, one)))

    def test_product_with_one_and_nought(self):
        for rows in all_rows():
            table, size = table_of(rows), len(rows)
            self.assertEqual(product(table, one_table(size)), table)
            self.assertEqual(product(one_table(size), table), table)
            noughts = ((NIL,) * size,) * size
            self.assertEqual(product(table, noughts), noughts)

    def test_turned(self):
        for rows in all_rows():
            size = len(rows)
            self.assertEqual(turned(table_of(rows)), table_of([[rows[k][at] for k in range(size)]
                                                               for at in range(size)]))

    def test_determinant(self):
        for rows in all_rows():
            self.assertEqual(determinant(table_of(rows)), pair_of(det(rows)))

    def test_inverse(self):
        without = 0
        for rows in all_rows():
            table = table_of(rows)
            found = inverse(table)
            if det(rows) == 0:
                self.assertIsNone(found)
                without += 1
                continue
            self.assertTrue(is_table(found))
            self.assertEqual(times(rows, numbers(found)), numbers(one_table(len(rows))))
            self.assertEqual(product(found, table), one_table(len(rows)))
        self.assertGreater(without, 60)

    def test_inverse_of_hidden_dependence(self):
        self.assertIsNone(inverse(table_of([[1, 2, 3], [4, 5, 6], [7, 8, 9]])))
        self.assertIsNone(inverse(((NIL,),)))
        self.assertEqual(inverse(((TWO,),)), ((HALF,),))
        self.assertEqual(inverse((((-2, 3),),)), (((-3, 2),),))
        self.assertEqual(inverse(((NIL, ONE), (ONE, NIL))), ((NIL, ONE), (ONE, NIL)))

    def test_what_was_returned_may_be_passed(self):
        table = table_of(made_rows(5, 3, 10 ** 12))
        for _ in range(3):
            table = product(table, inverse(product(table, table)))
            table = product(table, table)
        self.assertTrue(is_table(table))
        self.assertEqual(product(table, inverse(table)), one_table(5))


class SymmetricTables(unittest.TestCase):
    def test_is_symmetric(self):
        for rows in all_symmetric():
            self.assertIs(is_symmetric(table_of(rows)), True)
        for rows in all_rows():
            size = len(rows)
            expected = all(rows[at][k] == rows[k][at] for at in range(size) for k in range(size))
            self.assertIs(is_symmetric(table_of(rows)), expected)

    def test_one_place_makes_it_unsymmetric(self):
        for size in SIZES:
            for at in range(size):
                for k in range(size):
                    rows = symmetric_rows(size, at + 7 * k)
                    rows[at][k] += 1
                    self.assertIs(is_symmetric(table_of(rows)), at == k)

    def test_is_positive(self):
        found = {True: 0, False: 0}
        for rows in all_symmetric():
            self.assertIs(is_positive(table_of(rows)), is_above(rows))
            found[is_above(rows)] += 1
        self.assertGreater(min(found.values()), 50)

    def test_is_positive_for_few_whole_numbers(self):
        for rows in small_symmetric():
            self.assertIs(is_positive(table_of(rows)), is_above(rows))

    def test_positive_edges(self):
        self.assertIs(is_positive(((ONE,),)), True)
        self.assertIs(is_positive(((NIL,),)), False)
        self.assertIs(is_positive(((LESS,),)), False)
        self.assertIs(is_positive(((ONE, ONE), (ONE, ONE))), False)
        self.assertIs(is_positive(((ONE, ONE), (ONE, (10 ** 9 + 1, 10 ** 9)))), True)
        self.assertIs(is_positive(((LESS, NIL), (NIL, LESS))), False)

    def test_form_at(self):
        for count, rows in enumerate(all_symmetric()):
            row = made_row(len(rows), count)
            self.assertEqual(form_at(table_of(rows), row_of(row)), pair_of(form(rows, row)))
            self.assertEqual(form_at(table_of(rows), (NIL,) * len(rows)), NIL)

    def test_low_row(self):
        kinds = {"positive": 0, "regular": 0, "flat": 0}
        for rows in list(all_symmetric()) + list(small_symmetric()):
            found = low_row(table_of(rows))
            if is_above(rows):
                self.assertIsNone(found)
                kinds["positive"] += 1
                continue
            self.assertEqual(len(found), len(rows))
            self.assertTrue(is_table((found,)) if len(found) == 1 else is_table((found,) * len(found)))
            self.assertNotEqual(found, (NIL,) * len(rows))
            told = form(rows, [number(part) for part in found])
            if det(rows) == 0:
                self.assertLessEqual(told, 0)
                kinds["flat"] += 1
            else:
                self.assertLess(told, 0)
                kinds["regular"] += 1
        self.assertGreater(min(kinds.values()), 50)

    def test_low_row_with_a_first_determinant_of_nought(self):
        for rows in ([[0, 1], [1, 0]], [[0, 1], [1, 5]], [[0, 0, 1], [0, 3, 0], [1, 0, 9]],
                     [[1, 1, 0], [1, 1, 2], [0, 2, 7]], [[2, 2, 3], [2, 2, 0], [3, 0, 50]]):
            table = table_of(rows)
            self.assertNotEqual(determinant(table), NIL)
            self.assertLess(form_at(table, low_row(table)), NIL)

    def test_unsymmetric_in_one_place(self):
        for size in SIZES:
            for at in range(size):
                for k in range(size):
                    for change in (1, -1):
                        rows = gram_rows(size, size, at + 5 * k)
                        rows[at][k] += change * (at != k)
                        table, row = table_of(rows), (ONE,) * size
                        if at == k:
                            self.assertEqual(form_at(table, row), pair_of(sum(map(sum, rows))))
                            continue
                        for function, more in ((is_positive, ()), (low_row, ()), (form_at, (row,))):
                            with self.assertRaises(NotSymmetric):
                                function(table, *more)

    def test_low_row_of_noughts(self):
        for size in SIZES:
            noughts = ((NIL,) * size,) * size
            found = low_row(noughts)
            self.assertEqual(len(found), size)
            self.assertNotEqual(found, (NIL,) * size)


class Polynomials(unittest.TestCase):
    def test_polynomial_of(self):
        for rows in all_rows():
            size = len(rows)
            found = polynomial_of(table_of(rows))
            self.assertEqual(len(found), size + 1)
            self.assertEqual(found[-1], ONE)
            self.assertTrue(all(part == pair_of(number(part)) for part in found))
            # Two polynomials of this degree that agree in one place more are the same.
            for at in range(size + 1):
                less = [[(at if k == j else 0) - rows[j][k] for k in range(size)] for j in range(size)]
                self.assertEqual(worth(found, at), det(less))

    def test_polynomial_by_hand(self):
        self.assertEqual(polynomial_of(((HALF,),)), ((-1, 2), ONE))
        self.assertEqual(polynomial_of(one_table(5)),
                         ((-1, 1), (5, 1), (-10, 1), (10, 1), (-5, 1), ONE))
        self.assertEqual(polynomial_of(((NIL,) * 5,) * 5), (NIL,) * 5 + (ONE,))
        self.assertEqual(polynomial_of(table_of([[0, 1, 0], [0, 0, 1], [6, -11, 6]])),
                         ((-6, 1), (11, 1), (-6, 1), ONE))


if __name__ == "__main__":
    unittest.main()
