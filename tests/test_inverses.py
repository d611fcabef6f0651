"""Inverses with no number below 0: amounts and contents that show it, regular partings, sweeps of both methods."""
import unittest
from fractions import Fraction
from itertools import product
from random import Random

from chosen import back_rows, minus_rows, one_rows, regular
from helpers import ONE, det, made_rows, number, numbers, one_table, row_of, singular_rows, table_of, times_row
from sweepends.dying import does_die
from sweepends.inverses import (
    is_inverse_positive, is_regular, lifting_amounts, never_slower, sinking_contents, sweep_word)
from sweepends.late import boxing_amounts
from sweepends.lifts import is_below
from sweepends.methods import parting_of
from sweepends.partings import error_table
from sweepends.rates import is_size_below, rate_word, size_square_near
from sweepends.tables import inverse

SIZES = (1, 2, 3, 4, 5)
TINY = Fraction(1, 10 ** 30)


def below_tables():
    """Rows that are below, whatever stands along them: with an inverse, without one, with noughts, around the edge."""
    for size in SIZES:
        for seed in range(40):
            chance = Random(size * 100 + seed)
            rows = [[-abs(part) if chance.random() < 0.3 + 0.02 * seed else Fraction(0) for part in row]
                    for row in made_rows(size, seed, 3)]
            for at in range(size):
                rows[at][at] = Fraction(chance.randint(-1, 2 + 3 * size), chance.randint(1, 3))
            yield rows
            # With rows that add up to 0, to a little more and to a little less.
            for extra in (Fraction(0), TINY, -TINY):
                level = [[part for part in row] for row in rows]
                for at in range(size):
                    level[at][at] = extra - sum(rows[at][k] for k in range(size) if k != at)
                yield level
    for size in SIZES:
        yield [[Fraction(0)] * size for _ in range(size)]
        yield [[Fraction(-1)] * size for _ in range(size)]
        yield one_rows(size)
        yield [[-part for part in row] for row in one_rows(size)]
        # Each unknown beside one that goes before it only.
        yield [[Fraction(int(at == k) - int(k == at + 1)) for k in range(size)] for at in range(size)]
        yield [[Fraction(int(at == k) - 7 * int(k < at)) for k in range(size)] for at in range(size)]


def is_positive_by_hand(rows):
    """By minors: no inverse, or the numbers of it one by one."""
    whole, size = det(rows), len(rows)
    if whole == 0:
        return False
    for at in range(size):
        for k in range(size):
            minor = [[rows[one][other] for other in range(size) if other != k] for one in range(size) if one != at]
            if (-1) ** (at + k) * det(minor) / whole < 0:
                return False
    return True


class InversePositive(unittest.TestCase):
    def test_by_minors(self):
        told = []
        for size in SIZES:
            for seed in range(30):
                tables = [made_rows(size, seed), singular_rows(size, seed), regular(size, seed)]
                positive = [[abs(part) for part in row] for row in regular(size, seed)]
                if det(positive) != 0:
                    tables += [positive, back_rows(positive)]
                for rows in tables:
                    told.append(is_inverse_positive(table_of(rows)))
                    self.assertIs(told[-1], is_positive_by_hand(rows))
        self.assertGreater(told.count(True), 60)
        self.assertGreater(told.count(False), 60)

    def test_noughts_are_let_in(self):
        for size in SIZES:
            self.assertIs(is_inverse_positive(one_table(size)), True)
            self.assertIs(is_inverse_positive(table=one_table(size)[::-1]), True)
            self.assertIs(is_inverse_positive(table_of([[0] * size] * size)), False)
        self.assertIs(is_inverse_positive(table_of([[1, TINY], [0, 1]])), False)
        self.assertIs(is_inverse_positive(table_of([[1, -TINY], [0, 1]])), True)
        # No table that is below, but one with a positive inverse.
        self.assertIs(is_inverse_positive(inverse(table_of([[1, 2], [3, 4]]))), True)

    def test_big_numbers(self):
        big = 10 ** 399
        self.assertIs(is_inverse_positive(((ONE, (1 - big, big)), ((-big, big + 1), ONE))), True)
        self.assertIs(is_inverse_positive(((ONE, (-1 - big, big)), ((-1, 1), ONE))), False)
        self.assertIsNotNone(lifting_amounts(((ONE, (1 - big, big)), ((-big, big + 1), ONE))))
        self.assertIsNotNone(sinking_contents(((ONE, (-1 - big, big)), ((-1, 1), ONE))))


class Alternatives(unittest.TestCase):
    def test_just_one_of_both(self):
        told = []
        for rows in below_tables():
            table = table_of(rows)
            self.assertIs(is_below(table), True)
            amounts, contents = lifting_amounts(table), sinking_contents(table)
            self.assertEqual(amounts is None, contents is not None)
            self.assertIs(amounts is not None, is_inverse_positive(table))
            self.assertIs(amounts is not None, is_positive_by_hand(rows))
            told.append(amounts is not None)
            found = amounts or contents
            row = [number(part) for part in found]
            self.assertEqual((type(found), found), (tuple, row_of(row)))
            self.assertEqual(len(row), len(rows))
            if amounts is not None:
                self.assertTrue(all(part > 0 for part in row + times_row(rows, row)))
            else:
                self.assertTrue(all(part >= 0 for part in row) and any(row))
                self.assertTrue(all(part <= 0 for part in times_row([list(column) for column in zip(*rows)], row)))
        self.assertGreater(told.count(True), 150)
        self.assertGreater(told.count(False), 150)

    def test_by_name(self):
        self.assertIsNone(sinking_contents(table=one_table(3)))
        self.assertIsNone(lifting_amounts(table=table_of([[1, -1], [-1, 1]])))

    def test_one_unknown(self):
        for part, does in ((1, True), (TINY, True), (0, False), (-TINY, False), (-5, False)):
            table = table_of([[part]])
            self.assertIs(lifting_amounts(table) is not None, does)
            self.assertIs(sinking_contents(table) is None, does)

    def test_which_side(self):
        # A v is at most 0 for some v here as well, but asked is w A.
        table = table_of([[1, -3], [0, 0]])
        contents = [number(part) for part in sinking_contents(table)]
        self.assertEqual(contents[0], 0)
        self.assertGreater(contents[1], 0)


def regular_partings():
    """Partings of one table that are regular, from tables that are below and upright."""
    for seed, rows in enumerate(below_tables()):
        if seed % 3 or det(rows) == 0 or any(rows[at][at] <= 0 for at in range(len(rows))):
            continue
        table = table_of(rows)
        size = len(rows)
        methods = [("each",), ("behind", ONE), ("back", ONE), ("behind", (1, 2)), ("lots", ((0,),) + tuple(
            (at,) for at in range(1, size)))]
        if size > 2:
            methods.append(("lots", ((0, 2), (1,) + tuple(range(3, size)))))
            methods.append(("lots behind", (tuple(range(1, size)), (0,))))
        found = []
        for method in methods:
            try:
                found.append(parting_of(table, method))
            except ValueError:
                continue
        yield rows, found


def is_regular_by_hand(parting):
    table, split = [numbers(part) for part in parting]
    return all(part >= 0 for row in minus_rows(split, table) + back_rows(split) for part in row)


class Regular(unittest.TestCase):
    def test_by_hand(self):
        told = []
        for rows, partings in regular_partings():
            for parting in partings:
                told.append(is_regular(parting))
                self.assertIs(told[-1], is_regular_by_hand(parting))
                if told[-1]:
                    # The errors die just if A is inverse positive; in all late runs, too.
                    does = is_inverse_positive(parting[0])
                    self.assertIs(does_die(parting), does)
                    self.assertIs(boxing_amounts(parting) is not None, does)
                    self.assertTrue(all(part >= 0 for row in numbers(error_table(parting)) for part in row))
        for size in SIZES:
            for seed in range(30):
                parting = (table_of(regular(size, seed)), table_of(regular(size, seed + 50)))
                told.append(is_regular(parting=parting))
                self.assertIs(told[-1], is_regular_by_hand(parting))
        self.assertGreater(told.count(True), 100)
        self.assertGreater(told.count(False), 60)

    def test_each_of_both_alone(self):
        # M^-1 has a number below 0, then N has one, then neither.
        self.assertIs(is_regular((table_of([[1, 0], [0, 1]]), table_of([[1, 1], [0, 1]]))), False)
        self.assertIs(is_regular((table_of([[1, 1], [0, 1]]), table_of([[1, 0], [0, 1]]))), False)
        self.assertIs(is_regular((table_of([[1, -1], [0, 1]]), table_of([[1, 0], [0, 1]]))), True)
        self.assertIs(is_regular((table_of([[-1]]), table_of([[2]]))), True)
        self.assertIs(is_regular((one_table(4), one_table(4))), True)


class NeverSlower(unittest.TestCase):
    def test_pairs(self):
        told = []
        for rows, partings in regular_partings():
            positive, regular_ones = is_positive_by_hand(rows), [is_regular_by_hand(parting) for parting in partings]
            for (parting, one), (other, beside) in product(list(zip(partings, regular_ones)), repeat=2):
                table, split, second = numbers(parting[0]), numbers(parting[1]), numbers(other[1])
                is_less = all(part <= more for row, line in zip(minus_rows(split, table), minus_rows(second, table))
                              for part, more in zip(row, line))
                found = never_slower(parting, other)
                told.append(found)
                self.assertIs(found, positive and one and beside and is_less)
                if found and parting is not other and (len(rows) < 3 or len(told) % 30 == 0):
                    self.assertNotEqual(rate_word(parting, other), "slower")
        self.assertGreater(told.count(True), 300)
        self.assertGreater(told.count(False), 300)

    def test_not_one_and_the_same_table(self):
        table = table_of([[2, -1], [-1, 2]])
        each, behind = parting_of(table, ("each",)), parting_of(table, ("behind", ONE))
        others = [parting_of(table_of(rows), ("each",)) for rows in (
            [[4, -2], [-2, 4]], [[2, -1], [-1, 3]], [[2, -1, 0], [-1, 2, 0], [0, 0, 1]], [[2]])]
        for other in others:
            self.assertIs(never_slower(behind, other), False)
            self.assertIs(never_slower(other, behind), False)
        self.assertIs(never_slower(behind, each), True)
        self.assertIs(never_slower(other=behind, parting=each), False)
        self.assertIs(never_slower(each, each), True)

    def test_a_table_that_is_not_inverse_positive(self):
        table = table_of([[1, -2], [-2, 1]])
        each, behind = parting_of(table, ("each",)), parting_of(table, ("behind", ONE))
        self.assertIs(is_regular(each) and is_regular(behind), True)
        self.assertIs(never_slower(behind, each), False)
        self.assertIs(never_slower(each, each), False)

    def test_one_that_is_not_regular(self):
        table = table_of([[2, -1], [-1, 2]])
        each, wild = parting_of(table, ("each",)), parting_of(table, ("behind", (3, 2)))
        self.assertIs(is_regular(wild), False)
        self.assertIs(never_slower(wild, each), False)
        self.assertIs(never_slower(each, wild), False)
        self.assertIs(never_slower(wild, wild), False)

    def test_only_the_slower_one_is_not_regular(self):
        # Its N has no number below 0, but its M^-1 has one.
        table = table_of([[2, -1], [-1, 2]])
        each, other = parting_of(table, ("each",)), (table, table_of([[2, 1], [0, 2]]))
        self.assertIs(is_regular(other), False)
        self.assertIs(never_slower(each, other), False)

    def test_a_little_more_in_one_place(self):
        table = table_of([[2, -1], [-1, 2]])
        one, other = table_of([[2, 0], [0, 2]]), table_of([[2, -TINY], [0, 2]])
        self.assertIs(never_slower((table, other), (table, one)), True)
        self.assertIs(never_slower((table, one), (table, other)), False)
        across = table_of([[2, 0], [-TINY, 2]])
        self.assertIs(never_slower((table, across), (table, other)), False)
        self.assertIs(never_slower((table, other), (table, across)), False)


class Words(unittest.TestCase):
    def test_by_sizes(self):
        told = {"ends": 0, "dies": 0, "grows": 0}
        for rows in below_tables():
            if det(rows) == 0 or any(rows[at][at] <= 0 for at in range(len(rows))):
                continue
            table = table_of(rows)
            each, behind = parting_of(table, ("each",)), parting_of(table, ("behind", ONE))
            word = sweep_word(table)
            told[word] += 1
            if len(rows) > 3 and sum(told.values()) % 4:
                continue
            ends = size_square_near(each, 1) == (0, True)
            self.assertIs(ends, size_square_near(behind, 1) == (0, True))
            if ends:
                self.assertEqual(word, "ends")
                still = times_row(numbers(error_table(each)), [Fraction(1)] * len(rows))
                for _ in rows[1:]:
                    still = times_row(numbers(error_table(each)), still)
                self.assertFalse(any(still))
            elif is_size_below(each, ONE):
                self.assertEqual((word, rate_word(behind, each)), ("dies", "quicker"))
            else:
                self.assertEqual((word, rate_word(behind, each)), ("grows", "slower"))
                self.assertIs(does_die(behind), False)
            self.assertIs(word in ("ends", "dies"), is_inverse_positive(table))
        self.assertTrue(all(count > 20 for count in told.values()), told)

    def test_known_ones(self):
        for size in SIZES:
            self.assertEqual(sweep_word(table=one_table(size)), "ends")
            chain = [[Fraction(int(at == k) - 9 * int(k > at)) for k in range(size)] for at in range(size)]
            self.assertEqual(sweep_word(table_of(chain)), "ends")
        # Unknowns that go by themselves beside others.
        self.assertEqual(sweep_word(table_of([[1, -TINY, 0], [-TINY, 1, 0], [0, 0, 5]])), "dies")
        self.assertEqual(sweep_word(table_of([[1, -2, 0], [-2, 1, 0], [0, 0, 5]])), "grows")
        self.assertEqual(sweep_word(table_of([[1, -9, -9], [0, 2, -1], [0, -1, 2]])), "dies")
        self.assertEqual(sweep_word(table_of([[2, -1, 0, 0], [-1, 2, 0, 0], [0, 0, 1, -2], [0, 0, -2, 1]])), "grows")
        for extra, word in ((TINY, "dies"), (-TINY, "grows")):
            self.assertEqual(sweep_word(table_of([[1 + extra, -1], [-1, 1]])), word)

    def test_symmetric_ones(self):
        # Such a table is inverse positive just if it is positive.
        for rows in below_tables():
            both = [[one + other for one, other in zip(row, line)] for row, line in zip(rows, zip(*rows))]
            if det(both) == 0 or any(both[at][at] <= 0 for at in range(len(both))):
                continue
            corners = [det([row[:count] for row in both[:count]]) for count in range(1, len(both) + 1)]
            self.assertIs(sweep_word(table_of(both)) != "grows", all(part > 0 for part in corners))


if __name__ == "__main__":
    unittest.main()
