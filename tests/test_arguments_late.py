"""Wrong arguments of the functions on late runs, inverses, bounds and conjugate steps."""
import unittest

from arguments import FLAT, LEAN, NOUGHTS, PAIR, PARTING, ROW, TURN, Refusals
from helpers import LESS, NIL, ONE, TWO, one_table, table_of
from sweepends import bounds, conjugate, errors, inverses, late
from sweepends.methods import parting_of

STEPS = ((0, (0, 1)), (1, (2, 0)), (0, (0, 0)))
CROSS = table_of([[1, 2], [2, 1]])
FOES = table_of([[1, -2], [-2, 1]])
PARTED, TABLE, WITHIN = ("parting", "parting", PARTING), ("table", "table", PAIR), ("bounds", "bounds", (PAIR, PAIR))
RIGHT, GUESS = ("right", "row", ROW), ("guess", "row", (NIL, LESS))
AMOUNTS, LATE, SIZE = ("amounts", "amounts", ROW), ("steps", "steps", STEPS), ("size", "size", 2)
LOW, HIGH = ("low", "amount", ONE), ("high", "above one", TWO)
FUNCTIONS = [
    (late.is_late, [SIZE, ("value", None, STEPS)]), (late.is_tidy, [SIZE, LATE, ("number", "tidy", 2)]),
    (late.late_run, [PARTED, RIGHT, ("older", "row", ROW), ("newer", "row", (TWO, LESS)), LATE]),
    (late.boxing_amounts, [PARTED]), (late.growing_contents, [PARTED]), (late.box_factor, [PARTED, AMOUNTS]),
    (late.step_bound, [PARTED, AMOUNTS]), (late.staying_round, [PARTED]),
    (inverses.is_inverse_positive, [TABLE]), (inverses.lifting_amounts, [TABLE]),
    (inverses.sinking_contents, [TABLE]), (inverses.is_regular, [PARTED]),
    (inverses.never_slower, [PARTED, ("other", "parting", PARTING)]), (inverses.sweep_word, [TABLE]),
    (bounds.are_inverses_positive, [WITHIN]), (bounds.failing_table, [WITHIN]),
    (bounds.solution_range, [WITHIN, ("low", "row", ROW), ("high", "high row", (TWO, (5, 2)))]),
    (bounds.late_amounts_within, [WITHIN]), (conjugate.degree_of, [TABLE, ("row", "row", ROW)]),
    (conjugate.most_degree, [TABLE]), (conjugate.conjugate_run, [TABLE, RIGHT, GUESS]),
    (conjugate.error_forms, [TABLE, RIGHT, GUESS]),
    (conjugate.residual_polynomial, [TABLE, RIGHT, GUESS, ("count", "degree", 1)]),
    (conjugate.has_roots_within, [TABLE, ("low", "fraction", LESS), ("high", "fraction", (-2, 1))]),
    (conjugate.chebyshev_bound, [LOW, HIGH, ("count", "sixty", 7)]),
    (conjugate.worst_pair, [LOW, HIGH, ("count", "one or two", 2)]),
]
INTERFACE = [
    (late, "is_late is_tidy late_run boxing_amounts growing_contents box_factor step_bound staying_round"),
    (inverses, "is_inverse_positive lifting_amounts sinking_contents is_regular never_slower sweep_word"),
    (bounds, "is_bounds are_inverses_positive failing_table solution_range late_amounts_within"),
    (conjugate, "degree_of most_degree conjugate_run error_forms residual_polynomial has_roots_within"
                " chebyshev_bound worst_pair"),
]
EACH, ROUGH = parting_of(PAIR, ("each",)), parting_of(CROSS, ("each",))
START = {"right": ROW, "guess": (NIL, NIL)}
LAST = [
    # The box factor is just 1, then above it.
    (late.step_bound, {"parting": EACH, "amounts": (ONE, TWO)}, errors.NotBelow),
    (late.step_bound, {"parting": EACH, "amounts": (ONE, (10 ** 300, 1))}, errors.NotBelow),
    (late.step_bound, {"parting": ROUGH, "amounts": (ONE, ONE)}, errors.NotBelow),
    (inverses.lifting_amounts, {"table": CROSS}, errors.NotBelow),
    (inverses.lifting_amounts, {"table": LEAN}, errors.NotBelow),
    (inverses.sinking_contents, {"table": LEAN}, errors.NotBelow),
    (inverses.sinking_contents, {"table": table_of([[1, 0], [1, 1]])}, errors.NotBelow),
    (inverses.sinking_contents, {"table": FLAT}, errors.NotBelow),
    # No inverse is told of first, whether or not the table is below and upright.
    (inverses.sweep_word, {"table": FLAT}, errors.NoInverse),
    (inverses.sweep_word, {"table": NOUGHTS}, errors.NoInverse),
    (inverses.sweep_word, {"table": table_of([[1, -1], [-1, 1]])}, errors.NoInverse),
    (inverses.sweep_word, {"table": table_of([[0, 0], [-1, 0]])}, errors.NoInverse),
    (inverses.sweep_word, {"table": TURN}, errors.NotBelow), (inverses.sweep_word, {"table": LEAN}, errors.NotBelow),
    (inverses.sweep_word, {"table": table_of([[0, -1], [-1, 0]])}, errors.NotBelow),
    (inverses.sweep_word, {"table": table_of([[1, -1], [-1, 0]])}, errors.NotBelow),
    (inverses.sweep_word, {"table": table_of([[-1, 0], [0, 1]])}, errors.NotBelow),
    (bounds.solution_range, {"bounds": (FOES, PAIR), "low": ROW, "high": ROW}, errors.NotPositive),
    (bounds.solution_range, {"bounds": (PAIR, table_of([[2, 1], [1, 2]])), "low": ROW, "high": ROW},
     errors.NotPositive),
    (bounds.solution_range, {"bounds": (NOUGHTS, NOUGHTS), "low": ROW, "high": ROW}, errors.NotPositive),
    (conjugate.conjugate_run, {"table": LEAN, **START}, errors.NotSymmetric),
    (conjugate.conjugate_run, {"table": CROSS, **START}, errors.NotPositive),
    (conjugate.conjugate_run, {"table": NOUGHTS, **START}, errors.NotPositive),
    (conjugate.error_forms, {"table": LEAN, **START}, errors.NotSymmetric),
    (conjugate.error_forms, {"table": FLAT, **START}, errors.NotPositive),
    (conjugate.residual_polynomial, {"table": LEAN, **START, "count": 1}, errors.NotSymmetric),
    (conjugate.residual_polynomial, {"table": CROSS, **START, "count": 0}, errors.NotPositive),
    (conjugate.has_roots_within, {"table": LEAN, "low": ONE, "high": TWO}, errors.NotSymmetric),
    (conjugate.has_roots_within, {"table": LEAN, "low": TWO, "high": LESS}, errors.NotSymmetric),
]
# Neither symmetric nor positive: it is told of as the first one.
for odd_table in (table_of([[-1, 1], [0, -1]]), table_of([[0, 1], [0, 0]])):
    LAST += [(conjugate.conjugate_run, {"table": odd_table, **START}, errors.NotSymmetric),
             (conjugate.error_forms, {"table": odd_table, **START}, errors.NotSymmetric),
             (conjugate.residual_polynomial, {"table": odd_table, **START, "count": 5}, errors.NotSymmetric)]


class WrongArguments(Refusals, unittest.TestCase):
    functions, interface, last, asked = FUNCTIONS, INTERFACE, LAST, (bounds.is_bounds,)

    def test_right_sides_that_are_not_told_come_behind_the_errors(self):
        mixed = {"low": (LESS, ONE), "high": (LESS, TWO)}
        self.assertIsNone(bounds.solution_range((PAIR, PAIR), **mixed))
        self.refused(bounds.solution_range, {"bounds": (FOES, PAIR), **mixed}, errors.NotPositive, {})
        self.assertIs(conjugate.has_roots_within(PAIR, TWO, ONE), False)

    def test_amounts_of_each_number(self):
        for size in (1, 2, 3, 4, 5):
            parting, row = (one_table(size),) * 2, (ONE,) * size
            for function in (late.box_factor, late.step_bound):
                for at in range(size):
                    for odd in (NIL, LESS, (2, 4)):
                        amounts = row[:at] + (odd,) + (NIL,) * (size - at - 1)
                        self.refused(function, {"parting": parting, "amounts": amounts}, errors.InvalidAmounts,
                                     {"index": at})
                for odd in (row[1:], row + (ONE,), list(row), (NIL,) * (size + 1)):
                    self.refused(function, {"parting": parting, "amounts": odd}, errors.InvalidAmounts, {"index": None})

    def test_rows_and_steps_of_each_number(self):
        for size in (1, 2, 3, 4, 5):
            parting, row = (one_table(size),) * 2, (ONE,) * size
            right = {"parting": parting, "right": row, "older": row, "newer": row, "steps": ((0, (0,) * size),)}
            late.late_run(**right)
            for name in ("right", "older", "newer"):
                for at in range(size):
                    odd = row[:at] + ((2, 4),) + row[at + 1:]
                    self.refused(late.late_run, {**right, name: odd}, errors.InvalidRow, {"index": at})
                for odd in (row[1:], row + (ONE,), list(row)):
                    self.refused(late.late_run, {**right, name: odd}, errors.InvalidRow, {"index": None})
            odds = [(size, (0,) * size), (0, (0,) * (size + 1)), (0, (0,) * (size - 1))]
            if size > 1:
                odds.append((0, (0,) * (size - 1) + (2,)))
            for odd in odds:
                steps = ((0, (1,) * size), odd)
                self.refused(late.late_run, {**right, "steps": steps}, errors.InvalidSteps, {"index": 1})
                self.refused(late.is_tidy, {"size": size, "steps": steps, "number": 3}, errors.InvalidSteps,
                             {"index": 1})
                self.assertIs(late.is_late(size, steps), False)

    def test_highs_of_each_number(self):
        for size in (1, 2, 3, 4, 5):
            within, row = (one_table(size),) * 2, (ONE,) * size
            right = {"bounds": within, "low": row, "high": row}
            self.assertEqual(bounds.solution_range(**right), (row, row))
            for at in range(size):
                for odd in ((2, 4), (1, 2), NIL, (10 ** 300 - 1, 10 ** 300)):
                    high = row[:at] + (odd,) + (NIL,) * (size - at - 1)
                    self.refused(bounds.solution_range, {**right, "high": high}, errors.InvalidRow, {"index": at})
            for odd in (row[1:], row + (ONE,), list(row), (NIL,) * (size + 1)):
                self.refused(bounds.solution_range, {**right, "high": odd}, errors.InvalidRow, {"index": None})

    def test_ends_of_what_may_be_passed(self):
        both = ((0, (0, 0)),) * 200
        for size, told in ((1, False), (2, True), (3, False)):
            self.assertIs(late.is_late(size, both), told)
        self.assertIs(late.is_late(2, both + both[:1]), False)
        for number in (1, 200):
            self.assertIs(late.is_tidy(2, (), number), True)
        for count in range(6):
            self.assertEqual(len(conjugate.residual_polynomial(PAIR, ROW, (NIL, NIL), count)), min(count, 2) + 1)
        for count in range(61):
            self.assertEqual(conjugate.chebyshev_bound(ONE, TWO, count)[0], 1)
        for count in (1, 2):
            self.assertEqual(len(conjugate.worst_pair((1, 10 ** 399), (10 ** 399, 1), count)), 2)
        self.assertIs(conjugate.has_roots_within(PAIR, (-10 ** 399, 1), (10 ** 399, 1)), True)
        self.assertIs(conjugate.has_roots_within(NOUGHTS, NIL, NIL), True)


if __name__ == "__main__":
    unittest.main()
