"""Partings: what is one, error tables, solutions, residuals and steps."""
import unittest
from fractions import Fraction

from helpers import (
    LESS, NIL, ODD_FRACTIONS, ODD_VALUES, ONE, TWO, Prickly, det, made_row, made_rows, number, numbers, one_table,
    row_of, singular_rows, table_of, times, times_row)
from sweepends.errors import InvalidNumber, NoInverse
from sweepends.methods import parting_of
from sweepends.partings import error_table, is_parting, residual, run, solution, step
from sweepends.tables import inverse

SIZES = (1, 2, 3, 4, 5)
SEEDS = range(15)


def regular_rows(size, seed, limit=6):
    while True:
        rows = made_rows(size, seed, limit)
        if det(rows) != 0:
            return rows
        seed += 1000


def systems():
    """Rows A and M with an inverse each, a right side and a guess."""
    for size in SIZES:
        for seed in SEEDS:
            yield regular_rows(size, seed), regular_rows(size, seed + 100), made_row(size, seed), made_row(size, -seed)


def minus(rows, others):
    return [[one - other for one, other in zip(row, beside)] for row, beside in zip(rows, others)]


def row_plus(row, other):
    return [one + beside for one, beside in zip(row, other)]


def expected_step(rows, split, right, guess):
    back = numbers(inverse(table_of(split)))
    return times_row(back, row_plus(times_row(minus(split, rows), guess), right))


class WhatIsAParting(unittest.TestCase):
    def test_partings(self):
        for rows, split, _, _ in systems():
            self.assertIs(is_parting((table_of(rows), table_of(split))), True)
            self.assertIs(is_parting((table_of(rows), table_of(rows))), True)
        self.assertIs(is_parting(value=(one_table(3), one_table(3))), True)

    def test_odd_values(self):
        for odd in ODD_VALUES + ODD_FRACTIONS:
            self.assertIs(is_parting(odd), False)
            for size in SIZES:
                self.assertIs(is_parting((one_table(size), odd)), False)
                self.assertIs(is_parting((odd, one_table(size))), False)
                self.assertIs(is_parting((one_table(size), one_table(size), odd)), False)

    def test_odd_numbers_in_it(self):
        for odd in ODD_FRACTIONS + (Prickly(),):
            rows = ((ONE, odd), (NIL, ONE))
            self.assertIs(is_parting((one_table(2), rows)), False)
            self.assertIs(is_parting((rows, one_table(2))), False)

    def test_wrong_forms(self):
        one = one_table(2)
        for wrong in ((), (one,), (one, one, one), [one, one], {one: one}, one, (one, one_table(3)),
                      (one_table(1), one), (list(one), one), (one, [list(row) for row in one]),
                      (one_table(6), one_table(6)), "ab", (one, one[:1]), (one, None)):
            self.assertIs(is_parting(wrong), False)

    def test_numbers_of_rows(self):
        for size in SIZES:
            for other in SIZES:
                self.assertIs(is_parting((one_table(size), one_table(other))), size == other)

    def test_without_inverse(self):
        for size in SIZES:
            for seed in SEEDS:
                flat = table_of(singular_rows(size, seed))
                self.assertIs(is_parting((flat, one_table(size))), False)
                self.assertIs(is_parting((one_table(size), flat)), False)
                self.assertIs(is_parting((flat, flat)), False)


class Systems(unittest.TestCase):
    def test_solution(self):
        for rows, _, right, _ in systems():
            found = solution(table_of(rows), row_of(right))
            self.assertEqual(times_row(rows, [number(part) for part in found]), right)
            self.assertEqual(found, row_of(number(part) for part in found))
        self.assertEqual(solution(((TWO,),), ((3, 1),)), ((3, 2),))

    def test_no_solution(self):
        for size in SIZES:
            for seed in SEEDS:
                table = table_of(singular_rows(size, seed))
                for right in ((NIL,) * size, row_of(made_row(size, seed))):
                    with self.assertRaises(NoInverse):
                        solution(table, right)

    def test_residual(self):
        for rows, _, right, guess in systems():
            expected = row_of(one - other for one, other in zip(right, times_row(rows, guess)))
            self.assertEqual(residual(table_of(rows), row_of(right), row_of(guess)), expected)
            found = solution(table_of(rows), row_of(right))
            self.assertEqual(residual(table_of(rows), row_of(right), found), (NIL,) * len(rows))

    def test_residual_without_inverse(self):
        for size in SIZES:
            for seed in SEEDS:
                rows, right, guess = singular_rows(size, seed), made_row(size, seed), made_row(size, seed + 9)
                expected = row_of(one - other for one, other in zip(right, times_row(rows, guess)))
                self.assertEqual(residual(table_of(rows), row_of(right), row_of(guess)), expected)
        self.assertEqual(residual(((NIL,),), (ONE,), ((7, 1),)), (ONE,))

    def test_error_table(self):
        for rows, split, _, _ in systems():
            found = error_table((table_of(rows), table_of(split)))
            self.assertEqual(times(split, numbers(found)), minus(split, rows))
            self.assertEqual(found, table_of(numbers(found)))
            self.assertEqual(error_table((table_of(rows), table_of(rows))), ((NIL,) * len(rows),) * len(rows))

    def test_error_table_never_has_the_root_1(self):
        for rows, split, _, _ in systems():
            found = numbers(error_table((table_of(rows), table_of(split))))
            self.assertNotEqual(det(minus(numbers(one_table(len(rows))), found)), 0)


class Steps(unittest.TestCase):
    def test_step(self):
        for rows, split, right, guess in systems():
            found = step((table_of(rows), table_of(split)), row_of(right), row_of(guess))
            self.assertEqual(found, row_of(expected_step(rows, split, right, guess)))

    def test_step_keeps_the_solution_alone(self):
        for rows, split, right, guess in systems():
            parting = (table_of(rows), table_of(split))
            found = solution(parting[0], row_of(right))
            self.assertEqual(step(parting, row_of(right), found), found)
            if row_of(guess) != found:
                self.assertNotEqual(step(parting, row_of(right), row_of(guess)), row_of(guess))

    def test_error_goes_by_the_error_table(self):
        for rows, split, right, guess in systems():
            parting = (table_of(rows), table_of(split))
            found = [number(part) for part in solution(parting[0], row_of(right))]
            error = [one - other for one, other in zip(guess, found)]
            behind = row_plus(found, times_row(numbers(error_table(parting)), error))
            self.assertEqual(step(parting, row_of(right), row_of(guess)), row_of(behind))

    def test_behind_takes_each_unknown_in_turn(self):
        for size in SIZES:
            for seed in SEEDS:
                rows = regular_rows(size, seed)
                for at in range(size):
                    rows[at][at] += 20
                right, guess = made_row(size, seed), made_row(size, seed + 1)
                for name, order in (("behind", range(size)), ("back", range(size)[::-1])):
                    for factor in ((1, 1), (3, 2), (-1, 2)):
                        taken = list(guess)
                        for at in order:
                            asked = (right[at] - sum(rows[at][k] * taken[k] for k in range(size))) / rows[at][at]
                            taken[at] += number(factor) * asked
                        parting = parting_of(table_of(rows), (name, factor))
                        self.assertEqual(step(parting, row_of(right), row_of(guess)), row_of(taken))

    def test_run(self):
        for size in SIZES:
            for seed in range(3):
                rows, split = regular_rows(size, seed, 3), regular_rows(size, seed + 70, 3)
                parting = (table_of(rows), table_of(split))
                right, guess = row_of(made_row(size, seed)), row_of(made_row(size, seed + 5))
                expected = guess
                for count in range(41):
                    self.assertEqual(run(parting, right, guess, count), expected)
                    expected = step(parting, right, expected)

    def test_run_from_the_solution_and_with_noughts(self):
        for rows, split, right, _ in list(systems())[::5]:
            parting = (table_of(rows), table_of(split))
            found = solution(parting[0], row_of(right))
            for count in (0, 1, 40):
                self.assertEqual(run(parting, row_of(right), found, count), found)
            noughts = (NIL,) * len(rows)
            self.assertEqual(run(parting, noughts, noughts, 40), noughts)

    def test_run_that_ends(self):
        parting = parting_of(table_of([[2, 1, 1], [0, 3, 1], [0, 0, 4]]), ("each",))
        right = row_of([1, 2, 3])
        found = solution(parting[0], right)
        self.assertNotEqual(run(parting, right, row_of([9, 9, 9]), 2), found)
        self.assertEqual(run(parting, right, row_of([9, 9, 9]), 3), found)

    def test_run_count(self):
        parting = (one_table(2), one_table(2))
        for odd in ODD_VALUES + ODD_FRACTIONS[:20] + (-1, 41, 100, 10 ** 9):
            with self.assertRaises(InvalidNumber) as caught:
                run(parting, (ONE, ONE), (NIL, NIL), odd)
            self.assertIs(caught.exception.given, odd)
            with self.assertRaises(InvalidNumber) as caught:
                run(count=odd, guess=(NIL, NIL), right=(ONE, ONE), parting=parting)
            self.assertIs(caught.exception.given, odd)

    def test_returned_guesses_may_be_passed(self):
        parting = (table_of([[3, 1], [1, Fraction(7, 3)]]), table_of([[5, 0], [Fraction(1, 7), 11]]))
        guess, right = (LESS, (5, 1)), (ONE, TWO)
        for _ in range(3):
            guess = run(parting, right, guess, 40)
        once = guess
        for _ in range(40):
            guess = step(parting, right, guess)
        self.assertEqual(guess, run(parting, right, once, 40))
        self.assertGreater(guess[0][1], 10 ** 100)


if __name__ == "__main__":
    unittest.main()
