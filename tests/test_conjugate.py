"""Conjugate steps: the run written out, degrees, polynomials, roots within, and the bounds of Chebyshev."""
import unittest
from fractions import Fraction

from chosen import (
    back_rows, blocks, companion, dots, from_roots, images, jordan, one_rows, rank, single, slanted, symmetric_with,
    turning)
from helpers import (
    NIL, ONE, TWO, det, form, gram_rows, made_row, made_rows, number, pair_of, row_of, singular_rows, symmetric_rows,
    table_of, times, times_row, worth)
from sweepends.conjugate import (
    chebyshev_bound, conjugate_run, degree_of, error_forms, has_roots_within, most_degree, residual_polynomial,
    worst_pair)
from sweepends.dying import least_polynomial
from sweepends.partings import residual, solution
from sweepends.tables import is_positive

SIZES = (1, 2, 3, 4, 5)
HALF, TINY = Fraction(1, 2), Fraction(1, 10 ** 30)


ROOTS = [
    (1,), (HALF,), (1, 3), (2, 2), (1, 1, 5), (1, 2, 3), (4, 4, 4), (TINY, 1), (1, 1, 2, 2), (1, 2, 3, 4),
    (3, 3, 3, 1), (HALF, HALF, 7, 7, 7), (1, 2, 3, 4, 5), (1, 1, 1, 1, 1), (1, 1, 2, 3, 3),
    (Fraction(1, 100), 1, 100), (5, 6, 5, 6, 5),
]


def positive_tables():
    for seed, roots in enumerate(ROOTS):
        yield symmetric_with([Fraction(root) for root in roots], seed)[1]
    for size in SIZES:
        for seed in range(8):
            rows = gram_rows(size, size + 1, seed)
            if det(rows) != 0:
                yield rows


def starts(rows, seed):
    """Right sides and guesses, some of them the solution, and some with residuals of a lesser degree."""
    size = len(rows)
    right, guess = made_row(size, seed), made_row(size, seed + 1)
    noughts = [Fraction(0)] * size
    yield right, guess
    yield right, noughts
    yield noughts, guess
    yield noughts, noughts
    yield times_row(rows, guess), guess
    for at in range(size):
        yield one_rows(size)[at], noughts
    yield times_row(rows, guess)[:-1] + [times_row(rows, guess)[-1] + TINY], guess


def written_out(rows, right, guess):
    """The steps of point 30, and for each guess the residual."""
    left = [one - other for one, other in zip(right, times_row(rows, guess))]
    way, points, lefts = left, [guess], [left]
    while any(left):
        share = dots(left, left) / dots(way, times_row(rows, way))
        points.append([one + share * other for one, other in zip(points[-1], way)])
        following = [one - share * other for one, other in zip(left, times_row(rows, way))]
        carry = dots(following, following) / dots(left, left)
        way = [one + carry * other for one, other in zip(following, way)]
        left = following
        lefts.append(left)
    return points, lefts


def every_run():
    for at, rows in enumerate(positive_tables()):
        for right, guess in starts(rows, at):
            yield rows, right, guess


class Degrees(unittest.TestCase):
    def test_rows(self):
        for size in SIZES:
            for seed in range(8):
                for rows in (made_rows(size, seed), singular_rows(size, seed), symmetric_rows(size, seed)):
                    for row in one_rows(size) + [made_row(size, seed), [Fraction(0)] * size]:
                        passed = images(rows, row, size)
                        found = degree_of(table_of(rows), row_of(row))
                        self.assertEqual(found, rank(passed))
                        self.assertIs(type(found), int)
                        self.assertLessEqual(found, most_degree(table_of(rows)))

    def test_as_the_least_polynomial_tells(self):
        for size in SIZES:
            table = table_of(symmetric_with([Fraction(2 + at // 2) for at in range(size)], size)[1])
            split = table_of([[5 * part for part in row] for row in one_rows(size)])
            for seed in range(5):
                row = row_of(made_row(size, seed))
                # The error table 1 - A / 5 has the same degrees as A.
                self.assertEqual(degree_of(table, row), len(least_polynomial((table, split), row)) - 1)

    def test_most_of_known_tables(self):
        known = [
            ([single(3)], 1), ([single(0)], 1), ([single(2), single(2)], 1), ([single(2), single(3)], 2),
            ([jordan(1, 3)], 3), ([jordan(0, 5)], 5), ([jordan(0, 2), jordan(0, 2)], 2),
            ([jordan(0, 3), jordan(0, 2)], 3),
            ([jordan(1, 2), jordan(2, 2)], 4), ([jordan(1, 2), jordan(1, 2), single(1)], 2),
            ([turning(0, 1), turning(0, 1)], 2), ([turning(0, 1), turning(0, 1), single(0)], 3),
            ([turning(1, 2), turning(2, 1), single(7)], 5), ([companion(1, 0, 1, 0)], 4),
            ([companion(-2, 0), companion(-2, 0)], 2), ([companion(-2, 0), companion(2, 0), single(1)], 5),
            ([single(0), single(0), single(0), single(0), single(HALF)], 2),
        ]
        for parts, wanted in known:
            rows = blocks(*parts)
            for seed in (None, 1, 2):
                told = rows if seed is None else slanted(rows, seed)[1]
                self.assertEqual(most_degree(table_of(told)), wanted)
                self.assertEqual(most_degree(table=table_of([list(column) for column in zip(*told)])), wanted)

    def test_most_by_the_powers(self):
        for size in SIZES:
            for seed in range(6):
                for rows in (made_rows(size, seed), singular_rows(size, seed), [[Fraction(part > 0) for part in row]
                                                                               for row in made_rows(size, seed)]):
                    power, flat = one_rows(size), []
                    for _ in range(size + 1):
                        flat.append([part for row in power for part in row])
                        power = times(power, rows)
                    self.assertEqual(most_degree(table_of(rows)), rank(flat))

    def test_some_row_has_most(self):
        for parts in ([single(2), single(2), single(3)], [jordan(0, 2), jordan(0, 2)], [turning(0, 1), single(1)]):
            rows = slanted(blocks(*parts), 4)[1]
            table = table_of(rows)
            degrees = [degree_of(table, row_of(made_row(len(rows), seed))) for seed in range(10)]
            self.assertEqual(max(degrees), most_degree(table))


class Runs(unittest.TestCase):
    def test_written_out(self):
        told = set()
        for rows, right, guess in every_run():
            points, _ = written_out(rows, right, guess)
            found = conjugate_run(table_of(rows), row_of(right), row_of(guess))
            self.assertEqual(found, tuple(row_of(point) for point in points))
            self.assertEqual(found[0], row_of(guess))
            self.assertEqual(found[-1], solution(table_of(rows), row_of(right)))
            left = residual(table_of(rows), row_of(right), row_of(guess))
            self.assertEqual(len(found) - 1, degree_of(table_of(rows), left))
            self.assertLessEqual(len(found) - 1, most_degree(table_of(rows)))
            told.add(len(found))
        self.assertEqual(told, {1, 2, 3, 4, 5, 6})

    def test_guesses_that_are_the_solution(self):
        for rows in positive_tables():
            guess = made_row(len(rows), 7)
            table, right, start = table_of(rows), row_of(times_row(rows, guess)), row_of(guess)
            self.assertEqual(conjugate_run(guess=start, table=table, right=right), (start,))
            self.assertEqual(error_forms(table, right, start), (NIL,))
            for count in range(6):
                self.assertEqual(residual_polynomial(table, right, start, count), (ONE,))

    def test_roots_several_times(self):
        for roots in ROOTS:
            axes, rows = symmetric_with([Fraction(root) for root in roots], 3)
            size = len(roots)
            self.assertEqual(most_degree(table_of(rows)), len(set(roots)))
            for chosen in range(1, 2 ** size):
                inner = [Fraction(1 + at if chosen >> at & 1 else 0) for at in range(size)]
                right = times_row(axes, inner)
                wanted = len({root for at, root in enumerate(roots) if chosen >> at & 1})
                found = conjugate_run(table_of(rows), row_of(right), (NIL,) * size)
                self.assertEqual(len(found) - 1, wanted)

    def test_error_forms(self):
        for rows, right, guess in every_run():
            points, lefts = written_out(rows, right, guess)
            errors = [[one - other for one, other in zip(points[-1], point)] for point in points]
            found = error_forms(table_of(rows), row_of(right), row_of(guess))
            self.assertEqual(found, row_of([form(rows, error) for error in errors]))
            told = [number(part) for part in found]
            self.assertTrue(all(one > other for one, other in zip(told, told[1:])))
            self.assertEqual(told[-1], 0)

    def test_the_least_form(self):
        """Point 31: of all guesses within reach those of the run have the least forms."""
        for at, (rows, right, guess) in enumerate(every_run()):
            if at % 3:
                continue
            points, lefts = written_out(rows, right, guess)
            forms = [number(part) for part in error_forms(table_of(rows), row_of(right), row_of(guess))]
            ways = images(rows, lefts[0], len(points))
            for count in range(len(points)):
                self.assertTrue(all(dots(lefts[count], way) == 0 for way in ways[:count]))
                for seed in range(3):
                    shares = made_row(count, seed + at)
                    other = [part + sum(share * way[k] for share, way in zip(shares, ways))
                             for k, part in enumerate(guess)]
                    error = [one - two for one, two in zip(points[-1], other)]
                    self.assertGreaterEqual(form(rows, error), forms[count])
                    if other != points[count]:
                        self.assertGreater(form(rows, error), forms[count])

    def test_big_numbers(self):
        big = 10 ** 399
        table, right, guess = (((big, 1), ONE), (ONE, (big - 1, big))), ((1, big), (big, 3)), ((-big, 1), ONE)
        found = conjugate_run(table, right, guess)
        self.assertEqual((found[-1], len(found)), (solution(table, right), 3))
        self.assertEqual(error_forms(table, right, guess)[-1], NIL)
        # What is told may be passed on.
        self.assertEqual(conjugate_run(table, right, found[-1]), found[-1:])
        self.assertEqual(conjugate_run(table, right, found[1])[-1], found[-1])


class Polynomials(unittest.TestCase):
    def test_residuals_and_errors(self):
        for rows, right, guess in every_run():
            points, lefts = written_out(rows, right, guess)
            table, start = table_of(rows), (row_of(right), row_of(guess))
            passed = images(rows, lefts[0], len(points) - 1)
            error = [one - other for one, other in zip(points[-1], guess)]
            gone = images(rows, error, len(points) - 1)
            for count in range(6):
                found = residual_polynomial(table, *start, count)
                steps = min(count, len(points) - 1)
                self.assertEqual((type(found), len(found), found[0]), (tuple, steps + 1, ONE))
                self.assertNotEqual(found[-1], NIL)
                shares = [number(part) for part in found]
                self.assertEqual(found, row_of(shares))
                made = [sum(share * row[at] for share, row in zip(shares, passed)) for at in range(len(rows))]
                self.assertEqual(made, lefts[steps])
                made = [sum(share * row[at] for share, row in zip(shares, gone)) for at in range(len(rows))]
                self.assertEqual(made, [one - other for one, other in zip(points[-1], points[steps])])

    def test_behind_the_last_step(self):
        """The last one is the least polynomial of the first residual over its worth at 0."""
        for roots in ROOTS:
            axes, rows = symmetric_with([Fraction(root) for root in roots], 6)
            right = times_row(axes, [Fraction(1 + at) for at in range(len(roots))])
            whole = from_roots(sorted(set(roots)))
            wanted = row_of([part / whole[0] for part in whole])
            for count in range(len(set(roots)), 6):
                found = residual_polynomial(table_of(rows), row_of(right), (NIL,) * len(roots), count)
                self.assertEqual(found, wanted)

    def test_no_other_one_does_better(self):
        for at, (rows, right, guess) in enumerate(every_run()):
            if at % 4:
                continue
            points, _ = written_out(rows, right, guess)
            error = [one - other for one, other in zip(points[-1], guess)]
            gone = images(rows, error, 5)
            forms = [number(part) for part in error_forms(table_of(rows), row_of(right), row_of(guess))]
            for count in range(len(points)):
                for seed in range(3):
                    shares = [Fraction(1)] + made_row(count, seed + at)
                    made = [sum(share * row[k] for share, row in zip(shares, gone)) for k in range(len(rows))]
                    self.assertGreaterEqual(form(rows, made), forms[count])


class RootsWithin(unittest.TestCase):
    def test_known_roots(self):
        every = ROOTS + [(-1, 1), (0, 0), (0,), (-3, -3, -2), (-TINY, TINY, 0), (-5, 0, 5, 5, -5)]
        for seed, roots in enumerate(every):
            rows = symmetric_with([Fraction(root) for root in roots], seed)[1]
            table, least, most = table_of(rows), Fraction(min(roots)), Fraction(max(roots))
            middle = (least + most) / 2
            for low in (least, least - TINY, least + TINY, middle, most, Fraction(0), least - 100):
                for high in (most, most - TINY, most + TINY, middle, least, Fraction(0), most + 100):
                    wanted = low <= least and most <= high
                    self.assertIs(has_roots_within(table, pair_of(low), pair_of(high)), wanted)
                    self.assertIs(has_roots_within(high=pair_of(high), low=pair_of(low), table=table), wanted)

    def test_high_below_low(self):
        for rows in positive_tables():
            for low, high in ((TWO, ONE), (ONE, NIL), ((-1, 1), (-2, 1)), ((10 ** 9, 1), (-10 ** 9, 1))):
                self.assertIs(has_roots_within(table_of(rows), low, high), False)

    def test_by_determinants(self):
        """Roots that are no fractions."""
        told = []
        for size in SIZES:
            for seed in range(25):
                rows = symmetric_rows(size, seed)
                for low, high in ((-9, 9), (-20, 20), (-4, 30), (-30, 4), (0, 40), (-40, 0), (-7, 6)):
                    one = [[part - low * (at == k) for k, part in enumerate(row)] for at, row in enumerate(rows)]
                    other = [[high * (at == k) - part for k, part in enumerate(row)] for at, row in enumerate(rows)]
                    # Forms that are moved up by a little are above 0 just if they were at least 0 (no root is so near).
                    wanted = all(is_positive(table_of([[part + TINY * (at == k) for k, part in enumerate(row)]
                                                       for at, row in enumerate(part_rows)]))
                                 for part_rows in (one, other))
                    told.append(has_roots_within(table_of(rows), pair_of(low), pair_of(high)))
                    self.assertIs(told[-1], wanted)
        self.assertGreater(told.count(True), 100)
        self.assertGreater(told.count(False), 100)

    def test_surds(self):
        # The roots are the root of 2 and its opposite.
        table = table_of([[1, 1], [1, -1]])
        near, beyond = Fraction(141421356237309504, 10 ** 17), Fraction(141421356237309505, 10 ** 17)
        for low, high, wanted in ((-beyond, beyond, True), (-near, beyond, False), (-beyond, near, False)):
            self.assertIs(has_roots_within(table, pair_of(low), pair_of(high)), wanted)


class Chebyshev(unittest.TestCase):
    def test_by_the_recursion(self):
        for low, high in ((1, 3), (1, 2), (HALF, 7), (Fraction(355, 113), Fraction(22, 7)), (1, 10 ** 6), (TINY, 1)):
            low, high = Fraction(low), Fraction(high)
            ahead = (high + low) / (high - low)
            told = [Fraction(1), ahead]
            for _ in range(60):
                told.append(2 * ahead * told[-1] - told[-2])
            for count in range(61):
                wanted = pair_of(1 / told[count] ** 2)
                self.assertEqual(chebyshev_bound(pair_of(low), pair_of(high), count), wanted)
            self.assertEqual(chebyshev_bound(count=3, low=pair_of(low), high=pair_of(high)), pair_of(1 / told[3] ** 2))

    def test_bounds_of_runs(self):
        """Point 33: the form behind so many steps is at most the first one times the bound."""
        for at, (rows, right, guess) in enumerate(every_run()):
            table = table_of(rows)
            high = max(sum(abs(part) for part in row) for row in rows) + at % 2
            low = Fraction(1)
            while not has_roots_within(table, pair_of(low), pair_of(high)):
                low /= 3
            if low == high:
                high += 1
            forms = [number(part) for part in error_forms(table, row_of(right), row_of(guess))]
            for count in range(8):
                bound = number(chebyshev_bound(pair_of(low), pair_of(high), count))
                self.assertLessEqual(forms[min(count, len(forms) - 1)], bound * forms[0])

    def test_worst_pairs(self):
        for low, high in ((1, 3), (1, 2), (HALF, 7), (Fraction(22, 7), 4), (1, 10 ** 9), (TINY, 1), (1, 1 + TINY)):
            low, high = pair_of(low), pair_of(high)
            for count in (1, 2):
                table, right = worst_pair(low, high, count)
                self.assertEqual(worst_pair(count=count, low=low, high=high), (table, right))
                self.assertTrue(any(part != NIL for part in right))
                self.assertIs(has_roots_within(table, low, high), True)
                forms = [number(part) for part in error_forms(table, right, (NIL,) * len(right))]
                self.assertGreater(forms[0], 0)
                last = forms[min(count, len(forms) - 1)]
                self.assertEqual(last, forms[0] * number(chebyshev_bound(low, high, count)))
                self.assertGreater(last, 0)

    def test_as_polynomials(self):
        # T_k of the moved place is the residual polynomial of the worst pair, times its worth at 0.
        for count in (1, 2):
            table, right = worst_pair(TWO, (5, 1), count)
            found = residual_polynomial(table, right, (NIL,) * len(right), count)
            scale = 2 * (Fraction(7, 3)) ** 2 - 1 if count == 2 else Fraction(7, 3)
            for place, wanted in ((2, 1), (5, (-1) ** count), (Fraction(7, 2), 0 if count == 1 else -1)):
                self.assertEqual(worth(found, place) * scale, wanted)


class References(unittest.TestCase):
    def test_axes(self):
        for seed, roots in enumerate(ROOTS):
            axes, rows = symmetric_with([Fraction(root) for root in roots], seed)
            turned = [list(column) for column in zip(*axes)]
            self.assertEqual((times(axes, turned), back_rows(axes)), (one_rows(len(roots)), turned))
            self.assertEqual(rows, [list(column) for column in zip(*rows)])
            self.assertIs(is_positive(table_of(rows)), True)


if __name__ == "__main__":
    unittest.main()
