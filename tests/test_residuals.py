"""Least residuals: least squares by an own elimination, steps that stand still, and tables for each falling row."""
import unittest
from fractions import Fraction
from itertools import product as all_of
from random import Random

from chosen import blocks, dots, images, jordan, one_rows, rank, regular, single, turning
from helpers import (
    NIL, ONE, det, made_row, number, numbers, one_table, pair_of, row_of, table_of, times_row)
from sweepends.conjugate import degree_of
from sweepends.partings import solution
from sweepends.residuals import (
    falling_row, least_run, never_stands, standing_rows, standing_steps, stays_for_ever, table_for)
from sweepends.tables import is_table, polynomial_of

SIZES = (1, 2, 3, 4, 5)
HALF, TINY = Fraction(1, 2), Fraction(1, 10 ** 30)


def eliminated(rows, right):
    """The solution of linear equations by elimination, in numbers of Python."""
    lines = [list(row) + [part] for row, part in zip(rows, right)]
    for at in range(len(lines)):
        found = [k for k in range(at, len(lines)) if lines[k][at] != 0][0]
        lines[at], lines[found] = lines[found], lines[at]
        lines[at] = [part / lines[at][at] for part in lines[at]]
        for k in range(len(lines)):
            if k != at:
                lines[k] = [part - lines[k][at] * lead for part, lead in zip(lines[k], lines[at])]
    return [line[-1] for line in lines]


def squared(row, amounts):
    return sum(amount * part * part for part, amount in zip(row, amounts))


def least_squares(rows, right, amounts, count):
    """The guess of the multiples of as many images with the least square of the residual, and this square."""
    ways = images(rows, right, count)
    reached = ways[1:]
    lines = [[sum(amount * one * other for one, other, amount in zip(row, beside, amounts)) for beside in reached]
             for row in reached]
    sides = [sum(amount * one * other for one, other, amount in zip(row, right, amounts)) for row in reached]
    shares = eliminated(lines, sides)
    guess = [sum(share * way[at] for share, way in zip(shares, ways)) for at in range(len(right))]
    left = [one - other for one, other in zip(right, times_row(rows, guess))]
    return guess, squared(left, amounts)


def made_amounts(size, seed):
    chance = Random(seed)
    return [Fraction(chance.randint(1, 9), chance.randint(1, 5)) for _ in range(size)]


def turned_about(size):
    """Rows that lead each unit row to the next one, the last one to the first."""
    return [[Fraction(int(k == (at + 1) % size)) for k in range(size)] for at in range(size)]


def chosen_systems():
    for size in SIZES:
        tables = [regular(size, seed) for seed in range(6)] + [one_rows(size), turned_about(size), jordan(1, size),
                                                               blocks(*[single(2)] * size)]
        if size > 1:
            tables.append(blocks(turning(0, 1), *[single(2)] * (size - 2)))
            tables.append(blocks(*[single(1 + at // 2) for at in range(size)]))
        for seed, rows in enumerate(tables):
            rights = [made_row(size, seed + 7), [Fraction(0)] * size] + one_rows(size)[:2]
            for k, right in enumerate(rights):
                for amounts in ([Fraction(1)] * size, made_amounts(size, seed + k)):
                    yield rows, right, amounts


def given(rows, right, amounts):
    return table_of(rows), row_of(right), row_of(amounts)


class LeastRuns(unittest.TestCase):
    def test_by_elimination(self):
        told = set()
        for rows, right, amounts in chosen_systems():
            system = given(rows, right, amounts)
            degree = rank(images(rows, right, len(rows)))
            wanted = [least_squares(rows, right, amounts, count) for count in range(degree + 1)]
            run, squares = least_run(*system), falling_row(*system)
            self.assertEqual(run, tuple(row_of(guess) for guess, _ in wanted))
            self.assertEqual(squares, row_of([square for _, square in wanted]))
            self.assertEqual(len(run) - 1, degree_of(system[0], system[1]))
            self.assertEqual((run[0], run[-1]), ((NIL,) * len(rows), solution(system[0], system[1])))
            parts = [number(part) for part in squares]
            self.assertTrue(all(one >= other for one, other in zip(parts, parts[1:])))
            self.assertEqual((parts[-1], parts.count(0)), (0, 1))
            told.add(len(run))
        self.assertEqual(told, {1, 2, 3, 4, 5, 6})

    def test_by_name(self):
        system = given(regular(3, 1), made_row(3, 2), made_amounts(3, 3))
        self.assertEqual(least_run(amounts=system[2], right=system[1], table=system[0]), least_run(*system))
        self.assertEqual(falling_row(right=system[1], amounts=system[2], table=system[0]), falling_row(*system))
        self.assertEqual(standing_steps(amounts=system[2], table=system[0], right=system[1]), standing_steps(*system))

    def test_no_other_guess_does_better(self):
        for at, (rows, right, amounts) in enumerate(chosen_systems()):
            if at % 5:
                continue
            squares = [number(part) for part in falling_row(*given(rows, right, amounts))]
            ways = images(rows, right, len(rows))
            for count in range(len(squares)):
                for seed in range(4):
                    shares = made_row(count, seed + at)
                    guess = [sum(share * way[k] for share, way in zip(shares, ways)) for k in range(len(rows))]
                    left = [one - other for one, other in zip(right, times_row(rows, guess))]
                    self.assertGreaterEqual(squared(left, amounts), squares[count])

    def test_right_sides_of_noughts(self):
        for size in SIZES:
            for seed in range(4):
                system = table_of(regular(size, seed)), (NIL,) * size, row_of(made_amounts(size, seed))
                self.assertEqual(least_run(*system), ((NIL,) * size,))
                self.assertEqual(falling_row(*system), (NIL,))
                self.assertEqual(standing_steps(*system), ())
                for count in range(1, 6):
                    self.assertIs(stays_for_ever(*system, count), True)

    def test_big_numbers(self):
        big = 10 ** 399
        table, right = (((big, 1), ONE), ((1, big), (big - 1, big))), ((1, big), (big, 3))
        amounts = ((big, 7), (1, big))
        run, squares = least_run(table, right, amounts), falling_row(table, right, amounts)
        self.assertEqual((run[-1], squares[-1]), (solution(table, right), NIL))
        rows, side, shares = numbers(table), numbers([right])[0], numbers([amounts])[0]
        for count in range(3):
            guess, square = least_squares(rows, side, shares, count)
            self.assertEqual((run[count], squares[count]), (row_of(guess), pair_of(square)))


class Standing(unittest.TestCase):
    def test_steps(self):
        told = set()
        for rows, right, amounts in chosen_systems():
            system = given(rows, right, amounts)
            squares, run = falling_row(*system), numbers(least_run(*system))
            wanted = tuple(k for k in range(1, len(squares)) if squares[k] == squares[k - 1])
            found = standing_steps(*system)
            self.assertEqual(found, wanted)
            told.add(len(found))
            ways = images(rows, right, len(squares))
            for k in range(1, len(squares)):
                left = [one - other for one, other in zip(right, times_row(rows, run[k - 1]))]
                angle = dots([part * amount for part, amount in zip(left, amounts)], ways[k])
                self.assertEqual(k in found, angle == 0)
                self.assertEqual(k in found, run[k] == run[k - 1])
            if never_stands(system[0], system[2]):
                self.assertEqual(found, ())
        self.assertEqual(told, {0, 1, 2, 3, 4})

    def test_all_but_the_last_may_stand(self):
        for size in SIZES:
            system = given(turned_about(size)[::1], one_rows(size)[0], [Fraction(1)] * size)
            self.assertEqual(falling_row(*system), (ONE,) * size + (NIL,))
            self.assertEqual(standing_steps(*system), tuple(range(1, size)))

    def test_never_and_rows(self):
        told = []
        for size in SIZES:
            for seed in range(40):
                rows = regular(size, seed)
                for at in range(size):
                    rows[at][at] += seed % 5 * 4 * (-1) ** seed
                if det(rows) == 0:
                    continue
                told.append(self.check_rows(rows, made_amounts(size, seed)))
        self.assertGreater(told.count(True), 40)
        self.assertGreater(told.count(False), 40)

    def check_rows(self, rows, amounts):
        table, row, size = table_of(rows), row_of(amounts), len(rows)
        both = [[amounts[at] * rows[at][k] + amounts[k] * rows[k][at] for k in range(size)] for at in range(size)]
        corners = [det([line[:count] for line in both[:count]]) for count in range(1, size + 1)]
        turned = [-part if at % 2 == 0 else part for at, part in enumerate(corners)]
        wanted = all(part > 0 for part in corners) or all(part > 0 for part in turned)
        found = never_stands(table, row)
        self.assertIs(found, wanted)
        told = standing_rows(table, row)
        self.assertEqual(told is None, found)
        if told is not None:
            self.assertEqual((type(told), len(told)), (tuple, 2))
            for one, sign in zip(told, (-1, 1)):
                side = [number(part) for part in one]
                self.assertEqual((one, len(one)), (row_of(side), size))
                self.assertTrue(any(side))
                worth = dots(side, [amount * part for amount, part in zip(amounts, times_row(rows, side))])
                self.assertGreaterEqual(sign * worth, 0)
        return found

    def test_hardly_ever(self):
        """Forms that are 0, or change their sign, only where no drawn row shows it."""
        side = Fraction(10 ** 9, 10 ** 9 + 7)
        for extra, wanted in ((TINY, True), (Fraction(0), False), (-TINY, False)):
            # x . A x is (x - side * y) squared, and a little more of y squared.
            for sign in (1, -1):
                rows = [[Fraction(sign), sign * (1 - 2 * side)], [Fraction(-sign), sign * (side * side + extra)]]
                self.assertIs(self.check_rows(rows, [Fraction(1), Fraction(1)]), wanted)
                larger = blocks(rows, single(sign * 3), single(sign))
                self.assertIs(self.check_rows(larger, [Fraction(1), Fraction(1), HALF, Fraction(5)]), wanted)
        for size in (2, 3, 4, 5):
            # Nothing but the form's sign in one place is other than in all others.
            rows = one_rows(size)
            rows[-1][-1] = Fraction(-1, 10 ** 40)
            self.assertIs(self.check_rows(rows, [Fraction(1)] * size), False)
            self.assertIs(self.check_rows([[-part for part in row] for row in rows], made_amounts(size, 1)), False)

    def test_forms_of_nought(self):
        rows = [[Fraction(0), Fraction(1)], [Fraction(-1), Fraction(0)]]
        self.assertIs(self.check_rows(rows, [Fraction(1), Fraction(1)]), False)
        # With other amounts the form changes its sign.
        self.assertIs(self.check_rows(rows, [Fraction(1), Fraction(3)]), False)
        self.assertIs(self.check_rows(blocks(rows, rows), [Fraction(1)] * 4), False)
        for size in SIZES:
            self.assertIs(self.check_rows(one_rows(size), made_amounts(size, size)), True)
            self.assertIs(self.check_rows([[-part for part in row] for row in one_rows(size)], [HALF] * size), True)

    def test_amounts_decide(self):
        rows = [[Fraction(1), Fraction(2)], [Fraction(0), Fraction(1)]]
        for amount, wanted in ((1, False), (2, True), (5, True), (1 + TINY, True), (1 - TINY, False), (HALF, False)):
            self.assertIs(self.check_rows(rows, [Fraction(1), Fraction(amount)]), wanted)
        self.assertIs(never_stands(amounts=(ONE, (5, 1)), table=table_of(rows)), True)
        self.assertEqual(standing_rows(table=one_table(2), amounts=(ONE, ONE)), None)

    def test_rows_at_which_a_step_stands(self):
        # The row at which the form is 0 stands still at once as right side.
        rows = [[Fraction(1), Fraction(2)], [Fraction(0), Fraction(1)]]
        table, right, even = table_of(rows), row_of([1, -1]), (ONE, ONE)
        self.assertIs(never_stands(table, even), False)
        self.assertEqual(standing_steps(table, right, even), (1,))
        self.assertIs(stays_for_ever(table, right, even, 1), True)


class Begun(unittest.TestCase):
    def test_by_the_falling_row(self):
        told = []
        for rows, right, amounts in chosen_systems():
            system = given(rows, right, amounts)
            squares = falling_row(*system)
            for count in range(1, 6):
                found = stays_for_ever(*system, count)
                self.assertIs(found, squares[min(count, len(squares) - 1)] == squares[0])
                told.append(found)
                # Begun anew the first time it takes the least guess, or the last one if there are fewer.
                guess = least_run(*system)[min(count, len(squares) - 1)]
                self.assertIs(found, guess == (NIL,) * len(rows))
                if any(right) and never_stands(system[0], system[2]):
                    self.assertIs(found, False)
        self.assertGreater(told.count(True), 100)
        self.assertGreater(told.count(False), 100)

    def test_around_the_last_count(self):
        for size in SIZES:
            system = given(turned_about(size), one_rows(size)[0], [Fraction(1)] * size)
            for count in range(1, 6):
                named = {"count": count, "amounts": system[2], "right": system[1], "table": system[0]}
                self.assertIs(stays_for_ever(*system, count), count < size)
                self.assertIs(stays_for_ever(**named), count < size)

    def test_begun_anew(self):
        for at, (rows, right, amounts) in enumerate(chosen_systems()):
            if at % 7 or not never_stands(table_of(rows), row_of(amounts)):
                continue
            left = right
            for _ in range(4):
                guess = numbers(least_run(*given(rows, left, amounts)))[min(1, rank(images(rows, left, len(rows))))]
                following = [one - other for one, other in zip(left, times_row(rows, guess))]
                self.assertTrue(squared(following, amounts) < squared(left, amounts) or not any(left))
                left = following


class Tables(unittest.TestCase):
    def check(self, squares, polynomial):
        squares, polynomial = row_of(squares), row_of(polynomial)
        built = table_for(squares, polynomial)
        self.assertEqual((type(built), len(built)), (tuple, 3))
        table, right, amounts = built
        self.assertIs(is_table(table), True)
        self.assertEqual([len(table), len(right), len(amounts)], [len(squares) - 1] * 3)
        self.assertEqual(falling_row(table, right, amounts), squares)
        self.assertEqual(polynomial_of(table), polynomial)
        self.assertEqual(table_for(polynomial=polynomial, squares=squares), built)

    def test_all_lengths(self):
        for size in SIZES:
            for seed in range(12):
                chance = Random(seed)
                squares, part = [], Fraction(chance.randint(1, 99), chance.randint(1, 99))
                for _ in range(size):
                    squares.append(part)
                    part *= Fraction(chance.randint(1, 7), 7)
                polynomial = made_row(size, seed)
                polynomial[0] = polynomial[0] or Fraction(-3, 7)
                self.check(squares + [0], polynomial + [1])

    def test_equal_ones_running(self):
        for size in SIZES:
            for falls in all_of((0, 1), repeat=size - 1):
                squares = [Fraction(size + 1)]
                for falls_here in falls:
                    squares.append(squares[-1] - Fraction(falls_here, 2))
                for polynomial in ([-1] + [0] * (size - 1), [Fraction(1, 3)] + [-2] * (size - 1)):
                    self.check(squares + [0], polynomial + [1])

    def test_numbers_far_apart(self):
        self.check([10 ** 300, 10 ** 300, 1, TINY, TINY, 0], [TINY, 0, 10 ** 40, 0, -1, 1])
        self.check([TINY, 0], [10 ** 399, 1])
        self.check([Fraction(10 ** 399 - 1, 10 ** 399), Fraction(10 ** 399 - 2, 10 ** 399), 0], [-TINY, 10 ** 300, 1])

    def test_one_tells_nothing_of_the_other(self):
        # The same falling row for tables whose errors die, grow or turn.
        for polynomial in ([1, 0, 0, 1], [-1, 0, 0, 1], [1, 3, 3, 1], [TINY, 0, 0, 1], [10 ** 9, -5, 7, 1]):
            for squares in ([5, 5, 5, 0], [5, 4, 4, 0], [5, TINY, TINY, 0], [4, 3, 2, 0]):
                self.check(squares, polynomial)


if __name__ == "__main__":
    unittest.main()
