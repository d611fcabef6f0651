"""Symmetric tables: falls against the form of A at the errors, and lifted partings of each kind of method."""
import unittest
from fractions import Fraction

from chosen import back_rows, minus_rows, regular, whole_regular
from helpers import ONE, det, form, gram_rows, made_row, number, numbers, one_table, pair_of, row_of, symmetric_rows
from helpers import table_of, times_row
from sweepends.dying import does_die, does_die_from, does_serve
from sweepends.falls import fall, is_lifted
from sweepends.methods import parting_of
from sweepends.partings import error_table, run, solution
from sweepends.tables import form_at, is_positive, low_row

SIZES = (1, 2, 3, 4, 5)
FACTORS = (Fraction(1, 1000), Fraction(1, 2), Fraction(1), Fraction(3, 2), Fraction(1999, 1000), Fraction(2),
           Fraction(2001, 1000), Fraction(3), Fraction(-1, 2), Fraction(-3))


def plus(rows, others):
    return [[one + other for one, other in zip(row, beside)] for row, beside in zip(rows, others)]


def turned_rows(rows):
    return [list(column) for column in zip(*rows)]


def is_above(rows):
    return all(det([row[:count] for row in rows[:count]]) > 0 for count in range(1, len(rows) + 1))


def symmetric_tables():
    """Symmetric rows with an inverse, positive ones and others, without a 0 along them."""
    for size in SIZES:
        for seed in range(8):
            for rows in (symmetric_rows(size, seed), gram_rows(size, size + 1, seed)):
                if det(rows) != 0 and all(rows[at][at] != 0 for at in range(size)):
                    yield rows


def methods_for(size):
    lots = (tuple(range(size)[1::2]), tuple(range(size)[::2])) if size > 1 else ((0,),)
    found = [("each",), ("lots", lots), ("lots behind", lots), ("lots", (tuple(range(size)),))]
    for factor in FACTORS:
        found += [("behind", pair_of(factor)), ("back", pair_of(factor))]
    return found


def symmetric_partings():
    for seed, rows in enumerate(symmetric_tables()):
        size = len(rows)
        table = table_of(rows)
        for method in methods_for(size):
            try:
                yield parting_of(table, method)
            except ValueError:
                continue
        yield table, table_of(regular(size, seed))
        yield table, table_of(whole_regular(size, seed))


class Falls(unittest.TestCase):
    def test_against_the_form_at_the_errors(self):
        for seed, parting in enumerate(symmetric_partings()):
            rows, split = numbers(parting[0]), numbers(parting[1])
            error = made_row(len(rows), seed)
            behind = times_row(numbers(error_table(parting)), error)
            found = fall(parting, row_of(error))
            self.assertEqual(found, pair_of(form(rows, error) - form(rows, behind)))
            # What the step goes by, seen from M + M' - A.
            gone = times_row(back_rows(split), times_row(rows, error))
            self.assertEqual(gone, [one - other for one, other in zip(error, behind)])
            lifted = minus_rows(plus(split, turned_rows(split)), rows)
            self.assertEqual(found, pair_of(form(lifted, gone)))

    def test_falls_of_a_run(self):
        table = table_of([[4, 1, -1], [1, 3, 0], [-1, 0, 2]])
        right, guess = row_of([1, -2, 5]), row_of([7, Fraction(1, 3), -4])
        wanted = solution(table, right)
        for method in methods_for(3):
            parting = parting_of(table, method)
            errors = [[number(part) - number(whole) for part, whole in zip(run(parting, right, guess, count), wanted)]
                      for count in range(5)]
            for error, behind in zip(errors, errors[1:]):
                less = number(form_at(table, row_of(error))) - number(form_at(table, row_of(behind)))
                self.assertEqual(number(fall(parting=parting, error=row_of(error))), less)

    def test_noughts(self):
        for size in SIZES:
            for parting in ((one_table(size), one_table(size)), (one_table(size), table_of(regular(size, size)))):
                self.assertEqual(fall(parting, ((0, 1),) * size), (0, 1))

    def test_rising_forms(self):
        cross, pair = table_of([[1, 2], [2, 1]]), table_of([[2, -1], [-1, 2]])
        # From (1, 0) with the form 2 the step goes by (3, 3), to (- 2, - 3) with the form 14.
        self.assertEqual(fall(parting_of(pair, ("behind", (3, 1))), row_of([1, 0])), (-12, 1))
        self.assertEqual(fall(parting_of(pair, ("behind", (2, 1))), row_of([1, 5])), (0, 1))
        self.assertGreater(number(fall(parting_of(cross, ("behind", ONE)), row_of([0, 1]))), 0)
        self.assertLess(number(fall(parting_of(cross, ("each",)), row_of([1, 1]))), 0)


class Lifted(unittest.TestCase):
    def test_each_kind_of_method(self):
        told = []
        for parting in symmetric_partings():
            rows, split = numbers(parting[0]), numbers(parting[1])
            told.append(is_lifted(parting))
            self.assertIs(told[-1], is_above(minus_rows(plus(split, turned_rows(split)), rows)))
        self.assertGreater(told.count(True), 100)
        self.assertGreater(told.count(False), 100)

    def test_errors_die_exactly_if_the_table_is_positive(self):
        for parting in symmetric_partings():
            if is_lifted(parting=parting):
                does = does_die(parting)
                self.assertIs(does, is_positive(parting[0]))
                self.assertIs(does_serve(parting[0], parting), does)
                low = low_row(parting[0])
                self.assertEqual(low is None, does)
                if low is not None:
                    self.assertIs(does_die_from(parting, low), False)

    def test_factors_of_behind(self):
        for rows in symmetric_tables():
            table = table_of(rows)
            is_upright = all(rows[at][at] > 0 for at in range(len(rows)))
            for factor in FACTORS:
                for name in ("behind", "back"):
                    parting = parting_of(table, (name, pair_of(factor)))
                    if is_upright:
                        self.assertIs(is_lifted(parting), 0 < factor < 2)
                        self.assertIs(does_die(parting), 0 < factor < 2 and is_above(rows))
                    if not 0 < factor < 2:
                        self.assertIs(does_die(parting), False)

    def test_all_lots_in_one(self):
        for rows in symmetric_tables():
            parting = parting_of(table_of(rows), ("lots", (tuple(range(len(rows))),)))
            self.assertIs(is_lifted(parting), is_above(rows))


if __name__ == "__main__":
    unittest.main()
