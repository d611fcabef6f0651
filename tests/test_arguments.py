"""Wrong arguments of the functions on tables, methods, partings, errors that die, rates, falls and levels."""
import unittest

from arguments import BARE_RING, FLAT, FLAT_RING, LEAN, NOUGHTS, PAIR, PARTING, RING, ROW, TURN, Refusals
from helpers import NIL, ONE, TWO, one_table, singular_rows, table_of
from sweepends import dying, errors, falls, levels, methods, partings, rates, tables

# Each function with its parameters in order: (name, kind of what is wrong for it, a right argument).
TABLE, ROW_OF_TWO, METHOD = ("table", "table", PAIR), ("row", "row", ROW), ("method", "method", ("each",))
START = [("right", "row", ROW), ("guess", "row", ROW)]
PARTED, ERROR, MANY = ("parting", "parting", PARTING), ("error", "row", ROW), ("many", "many", 7)
FUNCTIONS = [
    (tables.product, [TABLE, ("other", "same", PAIR)]), (tables.turned, [TABLE]), (tables.determinant, [TABLE]),
    (tables.inverse, [TABLE]), (tables.is_symmetric, [TABLE]), (tables.polynomial_of, [TABLE]),
    (tables.is_positive, [TABLE]), (tables.form_at, [TABLE, ROW_OF_TWO]), (tables.low_row, [TABLE]),
    (methods.is_method, [("size", "size", 2), ("value", None, ("each",))]), (methods.split_of, [TABLE, METHOD]),
    (methods.parting_of, [TABLE, METHOD]), (partings.error_table, [PARTED]),
    (partings.solution, [TABLE] + START[:1]), (partings.residual, [TABLE] + START),
    (partings.step, [PARTED] + START), (partings.run, [PARTED] + START + [("count", "count", 3)]),
    (dying.does_die, [PARTED]), (dying.least_polynomial, [PARTED, ERROR]), (dying.does_die_from, [PARTED, ERROR]),
    (dying.stein_table, [PARTED]), (dying.staying_error, [PARTED]),
    (dying.does_serve, [TABLE, ("parting", "served", PARTING)]), (rates.size_square_near, [PARTED, MANY]),
    (rates.is_size_below, [PARTED, ("fraction", "amount", ONE)]),
    (rates.rate_word, [PARTED, ("other", "parting", PARTING)]), (falls.fall, [PARTED, ERROR]),
    (falls.is_lifted, [PARTED]), (levels.levels_of, [TABLE]), (levels.squares_of, [TABLE]),
    (levels.behind_polynomial, [TABLE, ("factor", "factor", TWO)]), (levels.best_near, [TABLE, MANY]),
]
INTERFACE = [
    (tables, "is_table product turned determinant inverse is_symmetric polynomial_of is_positive form_at low_row"),
    (methods, "is_method split_of parting_of"), (partings, "is_parting error_table solution residual step run"),
    (dying, "does_die least_polynomial does_die_from stein_table staying_error does_serve"),
    (rates, "size_square_near is_size_below rate_word"), (falls, "fall is_lifted"),
    (levels, "levels_of squares_of behind_polynomial best_near"),
]
# What is told with "last": (function, arguments, class of the error).
LAST = [
    (tables.is_positive, {"table": LEAN}, errors.NotSymmetric), (tables.low_row, {"table": LEAN}, errors.NotSymmetric),
    (tables.form_at, {"table": LEAN, "row": ROW}, errors.NotSymmetric),
    (tables.form_at, {"table": tables.turned(LEAN), "row": ROW}, errors.NotSymmetric),
    (methods.split_of, {"table": TURN, "method": ("each",)}, errors.NotSplit),
    (methods.split_of, {"table": NOUGHTS, "method": ("each",)}, errors.NotSplit),
    (methods.parting_of, {"table": TURN, "method": ("each",)}, errors.NotSplit),
    (methods.parting_of, {"table": FLAT, "method": ("each",)}, errors.NoInverse),
    (methods.parting_of, {"table": NOUGHTS, "method": ("each",)}, errors.NoInverse),
    (partings.solution, {"table": FLAT, "right": ROW}, errors.NoInverse),
    (falls.fall, {"parting": (LEAN, PAIR), "error": ROW}, errors.NotSymmetric),
    (falls.fall, {"parting": (tables.turned(LEAN), LEAN), "error": (NIL, NIL)}, errors.NotSymmetric),
    (falls.is_lifted, {"parting": (LEAN, LEAN)}, errors.NotSymmetric),
]
# What the functions on levels tell last: a table without an inverse, with a 0 along it, without levels, in this order.
LEVELLESS = [(FLAT, errors.NoInverse), (NOUGHTS, errors.NoInverse), (FLAT_RING, errors.NoInverse),
             (TURN, errors.NotSplit), (BARE_RING, errors.NotSplit), (RING, errors.NotLevelled)]
for odd_table, told_error in LEVELLESS:
    LAST += [(levels.squares_of, {"table": odd_table}, told_error),
             (levels.behind_polynomial, {"table": odd_table, "factor": ONE}, told_error),
             (levels.best_near, {"table": odd_table, "many": 3}, told_error)]


class WrongArguments(Refusals, unittest.TestCase):
    functions, interface, last = FUNCTIONS, INTERFACE, LAST
    asked = (tables.is_table, partings.is_parting)

    def test_rows_of_each_number(self):
        for size in (1, 2, 3, 4, 5):
            table = one_table(size)
            row = (ONE,) * size
            for at in range(size):
                odd = row[:at] + ((2, 4),) + row[at + 1:]
                later = row[:at] + ((2, 4),) * (size - at)
                for wrong_row in (odd, later):
                    self.refused(tables.form_at, {"table": table, "row": wrong_row}, errors.InvalidRow, {"index": at})
                    self.refused(partings.solution, {"table": table, "right": wrong_row}, errors.InvalidRow,
                                 {"index": at})
                    self.refused(partings.residual, {"table": table, "right": row, "guess": wrong_row},
                                 errors.InvalidRow, {"index": at})
            for wrong_row in (row[1:], row + (ONE,), list(row), ((2, 4),) * (size + 1)):
                self.refused(partings.step, {"parting": (table, table), "right": row, "guess": wrong_row},
                             errors.InvalidRow, {"index": None})

    def test_rows_of_each_number_as_errors(self):
        for size in (1, 2, 3, 4, 5):
            parting, row = (one_table(size),) * 2, (ONE,) * size
            for function in (dying.least_polynomial, dying.does_die_from, falls.fall):
                for at in range(size):
                    odd = row[:at] + ((2, 4),) + row[at + 1:]
                    self.refused(function, {"parting": parting, "error": odd}, errors.InvalidRow, {"index": at})
                for odd in (row[1:], row + (ONE,), list(row), ((2, 4),) * (size + 1)):
                    self.refused(function, {"parting": parting, "error": odd}, errors.InvalidRow, {"index": None})

    def test_tables_and_partings_of_different_numbers(self):
        for size in (1, 2, 3, 4, 5):
            for other in (1, 2, 3, 4, 5):
                parting = (one_table(other), one_table(other))
                if size != other:
                    self.refused(dying.does_serve, {"table": one_table(size), "parting": parting},
                                 errors.InvalidParting, {"given": parting})
                    self.assertEqual(rates.rate_word((one_table(size),) * 2, parting), "same")
        # A table that is not symmetric is told of behind a wrong parting only.
        rings = (RING, RING)
        self.refused(dying.does_serve, {"table": LEAN, "parting": rings}, errors.InvalidParting, {"given": rings})
        self.assertIs(dying.does_serve(LEAN, PARTING), False)

    def test_ends_of_what_may_be_passed(self):
        for many in (1, 10 ** 6):
            self.assertEqual(rates.size_square_near(PARTING, many), (0, True))
            self.assertEqual(levels.best_near(one_table(2), many), (many, True))
        for fraction in ((1, 10 ** 399), (10 ** 399, 1)):
            self.assertIs(rates.is_size_below(PARTING, fraction), True)
            self.assertEqual(levels.behind_polynomial(one_table(1), fraction)[1], ONE)
        self.assertEqual(levels.behind_polynomial(one_table(1), (-1, 3)), ((-4, 3), ONE))

    def test_singular_parts_of_a_parting(self):
        for size in (1, 2, 3, 4, 5):
            flat, one = table_of(singular_rows(size, 2)), one_table(size)
            for odd in ((flat, one), (one, flat)):
                self.refused(partings.error_table, {"parting": odd}, errors.InvalidParting, {"given": odd})
                self.refused(dying.does_die, {"parting": odd}, errors.InvalidParting, {"given": odd})
                self.refused(rates.rate_word, {"parting": (one, one), "other": odd}, errors.InvalidParting,
                             {"given": odd})


if __name__ == "__main__":
    unittest.main()
