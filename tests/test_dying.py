"""Errors that die: least polynomials, roots of chosen sizes, Stein tables, errors that stay, tables that serve."""
import unittest
from fractions import Fraction
from itertools import permutations, product as all_of

from chosen import (
    HALF, THIRD, blocks, companion, from_roots, images, jordan, minus_rows, one_rows, parting_for, parting_with,
    poly_power, poly_rest, poly_times, rank, regular, single, slanted, turning)
from helpers import (
    NIL, ONE, det, form, gram_rows, made_row, made_rows, number, numbers, one_table, pair_of, row_of, singular_rows,
    symmetric_rows, table_of, times, times_row)
from sweepends.dying import (
    does_die, does_die_from, does_serve, least_polynomial, staying_error, stein_grid, stein_table)
from sweepends.grids import least_of
from sweepends.methods import parting_of
from sweepends.partings import error_table, run, solution
from sweepends.tables import is_positive, polynomial_of

SIZES = (1, 2, 3, 4, 5)
SEEDS = range(6)
TINY = Fraction(1, 10 ** 30)
# Parts of error tables, each with the square of the size of its roots.
PARTS = [
    (single(0), 0), (single(HALF), HALF ** 2), (single(-THIRD), THIRD ** 2), (single(-1), 1), (single(2), 4),
    (single(1 - TINY), (1 - TINY) ** 2), (single(TINY - 1), (1 - TINY) ** 2), (single(1 + TINY), (1 + TINY) ** 2),
    (single(-1 - TINY), (1 + TINY) ** 2), (turning(HALF, HALF), HALF), (turning(0, 1), 1),
    (turning(Fraction(3, 5), Fraction(4, 5)), 1), (turning(Fraction(-3, 5), Fraction(4, 5)), 1), (turning(1, 1), 2),
    (turning(Fraction(2, 3), Fraction(2, 3)), Fraction(8, 9)), (turning(Fraction(3, 4), Fraction(3, 4)), Fraction(9, 8)),
    (turning(Fraction(1, 3), 1), Fraction(10, 9)), (turning(Fraction(-1, 3), Fraction(9, 10)), Fraction(829, 900)),
    (jordan(HALF, 2), HALF ** 2), (jordan(0, 3), 0), (jordan(-1, 2), 1), (jordan(Fraction(9, 10), 5), Fraction(81, 100)),
    (jordan(Fraction(11, 10), 3), Fraction(121, 100)), (companion(-HALF, 0), HALF),
    (companion(-Fraction(4, 3), 0), Fraction(4, 3)), (companion(HALF, 1), HALF), (companion(1, HALF), 1), (companion(1, 1, 1, 1), 1),
]


def chosen_rows():
    """Rows of up to five with roots of known sizes: (parts, greatest square of a size)."""
    for rows, size in PARTS:
        yield [rows], size
    for (rows, size), (others, other) in permutations(PARTS, 2):
        if len(rows) + len(others) <= 5:
            yield [rows, others], max(size, other)
    small = PARTS[:2] + PARTS[3:4] + PARTS[5:8:2] + PARTS[9:12:2]
    for chosen in all_of(small, repeat=3):
        parts = [rows for rows, _ in chosen]
        if sum(len(part) for part in parts) <= 5:
            yield parts, max(size for _, size in chosen)


class LeastPolynomials(unittest.TestCase):
    def check(self, parting, row):
        rows = numbers(error_table(parting))
        found = least_polynomial(parting, row_of(row))
        self.assertIs(type(found), tuple)
        self.assertEqual(found[-1], ONE)
        self.assertTrue(all(part == pair_of(number(part)) for part in found))
        degree = len(found) - 1
        passed = images(rows, row, degree)
        total = [sum(number(part) * line[at] for part, line in zip(found, passed)) for at in range(len(row))]
        self.assertEqual(total, [0] * len(row))
        self.assertEqual(rank(passed[:degree]), degree)
        whole = [number(part) for part in polynomial_of(error_table(parting))]
        self.assertEqual(poly_rest(whole, [number(part) for part in found]), [])
        return found

    def test_rows_and_unit_rows(self):
        for size in SIZES:
            for seed in SEEDS:
                partings = [(table_of(regular(size, seed, 6)), table_of(regular(size, seed + 50, 6)))]
                flat = singular_rows(size, seed)
                if det(minus_rows(one_rows(size), flat)) != 0:
                    partings.append(parting_for(flat, seed))
                for parting in partings:
                    rows = one_rows(size) + [made_row(size, seed), [Fraction(10 ** 30 + k, 7) for k in range(size)]]
                    for row in rows:
                        self.check(parting, row)

    def test_noughts(self):
        for size in SIZES:
            parting = (table_of(regular(size, size)), table_of(regular(size, size + 9)))
            self.assertEqual(self.check(parting, [Fraction(0)] * size), (ONE,))
            self.assertEqual(least_polynomial(parting=(one_table(size),) * 2, error=(NIL,) * size), (ONE,))

    def test_chosen_roots(self):
        for parts, _ in list(chosen_rows())[::7]:
            rows = blocks(*parts)
            for seed in (None, 3):
                parting = parting_for(rows, seed)
                for row in one_rows(len(rows)) + [[Fraction(1)] * len(rows)]:
                    self.check(parting, row)

    def test_known_ones(self):
        for size in SIZES:
            for root in (0, HALF, -2):
                same = parting_for(blocks(*[single(root)] * size), 1)
                chain = parting_for(jordan(root, size), 2)
                for at, row in enumerate(one_rows(size)):
                    self.assertEqual(self.check(same, row), row_of(from_roots([root])))
                    self.assertEqual(self.check(chain, row), row_of(poly_power([-root, 1], at + 1)))
            roots = [Fraction(1, 2 + at) for at in range(size)]
            parting = parting_for(blocks(*[single(root) for root in roots]), 4)
            for at in range(size):
                row = [Fraction(int(k <= at)) for k in range(size)]
                self.assertEqual(self.check(parting, row), row_of(from_roots(roots[:at + 1])))
        # (x - 1 / 2) (x * x + 4 / 9), with both parts from one row.
        parting = parting_for(blocks(single(HALF), turning(0, Fraction(2, 3))), 5)
        wanted = row_of(poly_times([-HALF, 1], [Fraction(4, 9), 0, 1]))
        self.assertEqual(self.check(parting, [Fraction(3), Fraction(0), Fraction(-1)]), wanted)

    def test_of_any_grid(self):
        for size in SIZES:
            for seed in SEEDS:
                rows, row = singular_rows(size, seed), made_row(size, seed)
                found = least_of(table_of(rows), row_of(row))
                passed = images(rows, row, len(found) - 1)
                total = [sum(number(part) * line[at] for part, line in zip(found, passed)) for at in range(size)]
                self.assertEqual((total, rank(passed[:-1])), ([0] * size, len(found) - 1))


class Dying(unittest.TestCase):
    def test_chosen_roots(self):
        for seed, (parts, size) in enumerate(chosen_rows()):
            self.assertIs(does_die(parting_for(blocks(*parts))), size < 1, parts)
            if seed % 5 == 0:
                self.assertIs(does_die(parting_with(blocks(*parts), seed)), size < 1, parts)
                self.assertIs(does_die(parting=parting_for(blocks(*parts), seed)), size < 1, parts)

    def test_errors_of_chosen_parts(self):
        for seed, (parts, size) in enumerate(list(chosen_rows())[::9]):
            axes, rows = slanted(blocks(*parts), seed)
            parting = parting_for(rows, seed)
            known = {id(part): square for part, square in PARTS}
            for chosen in all_of((0, 1), repeat=len(parts)):
                inner = [Fraction(is_in * (k + 1)) for part, is_in in zip(parts, chosen) for k in range(len(part))]
                does = all(known[id(part)] < 1 for part, is_in in zip(parts, chosen) if is_in)
                row = row_of(times_row(axes, inner))
                self.assertIs(does_die_from(parting, row), does)
                self.assertIs(does_die_from(parting=parting, error=row), does)

    def test_noughts_die_always(self):
        for parts, _ in list(chosen_rows())[::5]:
            rows = blocks(*parts)
            self.assertIs(does_die_from(parting_for(rows, 2), (NIL,) * len(rows)), True)

    def test_a_long_chain_under_a_dying_end(self):
        # The first axis dies, what leads to it from outside does not.
        parting = parting_for([[HALF, Fraction(5)], [Fraction(0), Fraction(-2)]])
        self.assertIs(does_die_from(parting, (ONE, NIL)), True)
        self.assertIs(does_die_from(parting, (NIL, ONE)), False)
        self.assertIs(does_die_from(parting, (ONE, ONE)), False)
        self.assertIs(does_die_from(parting, row_of([2, -1])), False)
        self.assertEqual(staying_error(parting), (NIL, ONE))

    def test_staying_errors(self):
        for seed, (parts, size) in enumerate(chosen_rows()):
            rows = blocks(*parts)
            partings = [parting_for(rows)]
            if seed % 7 == 0:
                partings.append(parting_with(rows, seed))
            for parting in partings:
                found = staying_error(parting)
                if size < 1:
                    self.assertIsNone(found)
                else:
                    self.assertIn(found, one_table(len(rows)))
                    self.assertIs(does_die_from(parting, found), False)

    def test_made_up_partings(self):
        for size in SIZES:
            for seed in range(20):
                parting = (table_of(regular(size, seed, 6)), table_of(regular(size, seed + 200, 6)))
                does = does_die(parting)
                units = [does_die_from(parting, row) for row in one_table(size)]
                self.assertIs(does, all(units))
                found = staying_error(parting)
                self.assertEqual(found is None, does)
                self.assertEqual(stein_table(parting) is not None, does)
                if found is not None:
                    self.assertIs(units[one_table(size).index(found)], False)

    def test_steps_show_it(self):
        right, guess = row_of([3, -1]), row_of([7, -9])
        for rows, size in ((turning(HALF, HALF), HALF), (jordan(HALF, 2), HALF ** 2), (turning(1, 1), 2)):
            parting = parting_with(rows, 6)
            wanted = numbers([solution(parting[0], right)])[0]
            behind = numbers([run(parting, right, guess, 40)])[0]
            far = max(abs(one - other) for one, other in zip(behind, wanted))
            self.assertEqual(far < Fraction(1, 1000), size < 1)
            self.assertEqual(far > 1000, size > 1)
            self.assertEqual(does_die(parting), size < 1)

    def test_big_numbers(self):
        big = 10 ** 399
        for root, does in ((Fraction(big - 1, big), True), (Fraction(-big, big + 1), True), (Fraction(1, big), True),
                           (Fraction(big + 1, big), False), (Fraction(big), False)):
            parting = parting_for(single(root))
            self.assertIs(does_die(parting), does)
            self.assertEqual(stein_table(parting) is None, not does)
            self.assertIs(does_die_from(parting, (pair_of(Fraction(big, 7)),)), does)
        parting = parting_for(turning(Fraction(3 * big, 5 * big + 1), Fraction(4, 5)))
        self.assertIs(does_die(parting), True)


class Stein(unittest.TestCase):
    def check(self, parting):
        found = stein_table(parting)
        rows, table = numbers(error_table(parting)), numbers(found)
        columns = [list(column) for column in zip(*rows)]
        size = len(rows)
        self.assertEqual(found, table_of(table))
        self.assertEqual(table, [list(column) for column in zip(*table)])
        self.assertEqual(minus_rows(table, times(columns, times(table, rows))), one_rows(size))
        for count in range(1, size + 1):
            self.assertGreater(det([row[:count] for row in table[:count]]), 0)
        self.assertIs(does_serve(found, parting), True)

    def test_chosen_roots(self):
        for seed, (parts, size) in enumerate(list(chosen_rows())[::3]):
            parting = parting_with(blocks(*parts), seed) if seed % 4 == 0 else parting_for(blocks(*parts), seed)
            if size < 1:
                self.check(parting)
            else:
                self.assertIsNone(stein_table(parting))

    def test_only_a_positive_one_counts(self):
        # Some symmetric H has H - T' H T = 1 here, too, as no two roots have the product 1: but no positive one.
        for rows in (single(2), single(-3), turning(1, 1), blocks(single(2), single(HALF / 2)), jordan(-2, 3)):
            parting = parting_for(rows, 3)
            self.assertIsNone(stein_table(parting))
            found = stein_grid(error_table(parting))
            table, errors = numbers(found), numbers(error_table(parting))
            behind = times([list(column) for column in zip(*errors)], times(table, errors))
            self.assertEqual(minus_rows(table, behind), one_rows(len(rows)))
            self.assertIs(is_positive(found), False)
            self.assertIs(does_serve(found, parting), False)

    def test_known_ones(self):
        for root in (Fraction(0), HALF, Fraction(-9, 10)):
            for size in SIZES:
                wanted = table_of([[part / (1 - root * root) for part in row] for row in one_rows(size)])
                self.assertEqual(stein_table(parting_for(blocks(*[single(root)] * size), 1)), wanted)
        self.assertEqual(stein_table(parting=(one_table(3), one_table(3))), one_table(3))


def serves(table, rows):
    """Whether rows serve an error table, by determinants."""
    if table != [list(column) for column in zip(*table)]:
        return False
    behind = times([list(column) for column in zip(*rows)], times(table, rows))
    return all(det([row[:count] for row in part[:count]]) > 0
               for part in (table, minus_rows(table, behind)) for count in range(1, len(table) + 1))


class Serving(unittest.TestCase):
    def test_made_up_tables(self):
        told = []
        for size in SIZES:
            for seed in range(30):
                rows = [[part / (1 + seed % 7) for part in row] for row in made_rows(size, seed, 3)]
                if det(minus_rows(one_rows(size), rows)) == 0:
                    continue
                parting = parting_for(rows, seed)
                tables = [one_rows(size), symmetric_rows(size, seed), gram_rows(size, size + 1, seed),
                          gram_rows(size, size - 1, seed), made_rows(size, seed)]
                stein = stein_table(parting)
                if stein is not None:
                    tables += [numbers(stein), [[part + THIRD for part in row] for row in numbers(stein)]]
                for table in tables:
                    told.append(does_serve(table_of(table), parting))
                    self.assertIs(told[-1], serves(table, rows))
        self.assertGreater(told.count(True), 30)
        self.assertGreater(told.count(False), 30)

    def test_neither_part_is_enough(self):
        growing, dying = parting_for(single(2)), parting_for(single(HALF))
        # H - T' H T is 3 with H = - 1, but H is not positive; with H = 1 it is the other way round.
        self.assertIs(does_serve(table_of([[-1]]), growing), False)
        self.assertIs(does_serve(one_table(1), growing), False)
        self.assertIs(does_serve(one_table(1), dying), True)
        self.assertIs(does_serve(table=((NIL,),), parting=dying), False)
        self.assertIs(does_serve(one_table(1), parting_for(single(-1))), False)
        slant = parting_for([[Fraction(0), Fraction(1)], [Fraction(0), Fraction(0)]])
        self.assertIs(does_serve(one_table(2), slant), False)
        self.assertIs(does_serve(table_of([[1, 0], [0, 2]]), slant), True)

    def test_tables_that_are_not_symmetric(self):
        for size in SIZES[1:]:
            for seed in SEEDS:
                parting = parting_for(blocks(*[single(HALF)] * size), seed)
                rows = one_rows(size)
                rows[seed % size][(seed + 1) % size] = Fraction(1, 10 ** 9)
                self.assertIs(does_serve(table_of(rows), parting), False)
                self.assertIs(does_serve(one_table(size), parting), True)

    def test_one_table_for_several_partings(self):
        # A positive table serves each lifted parting of itself: weavings of their steps make its form fall.
        for size in SIZES:
            for seed in SEEDS:
                rows = gram_rows(size, size + 2, seed)
                if det(rows) == 0:
                    continue
                table = table_of(rows)
                partings = [parting_of(table, method) for method in (
                    ("behind", ONE), ("back", ONE), ("behind", (3, 2)), ("back", (1, 5)),
                    ("lots behind", (tuple(range(size)),)))]
                row = [Fraction(k + 1) for k in range(size)]
                for parting in partings + partings[::-1] + partings[1:4]:
                    self.assertIs(does_serve(table, parting), True)
                    following = times_row(numbers(error_table(parting)), row)
                    self.assertTrue(form(rows, following) < form(rows, row) or not any(row))
                    row = following


if __name__ == "__main__":
    unittest.main()
