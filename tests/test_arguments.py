"""Wrong arguments of every function: which error comes first, with what, by position and by name."""
import unittest

from helpers import LESS, NIL, ODD_FRACTIONS, ODD_VALUES, ONE, TWO, one_table, singular_rows, swapped, table_of
from sweepends import dying, errors, falls, levels, methods, partings, rates, tables

PAIR = table_of([[2, -1], [-1, 2]])
LEAN = table_of([[1, 2], [0, 1]])
FLAT = table_of([[1, 2], [2, 4]])
TURN = table_of([[0, 1], [1, 0]])
NOUGHTS = ((NIL, NIL), (NIL, NIL))
RING = table_of([[2, -1, -1], [-1, 2, -1], [-1, -1, 4]])
FLAT_RING, BARE_RING = table_of([[1, 1, 1]] * 3), table_of([[0, 1, 1], [1, 0, 1], [1, 1, 0]])
PARTING = (PAIR, PAIR)
ROW = (ONE, TWO)
ODD_TABLES = ODD_VALUES + ODD_FRACTIONS + (
    one_table(6), PAIR[:1], [list(row) for row in PAIR], list(PAIR), PAIR + PAIR[:1], (ROW, (ONE, (2, 2))),
    (ROW, (ONE, (True, 1))), (ROW, [ONE, ONE]), ROW)
ODD_METHODS = ODD_VALUES + ODD_FRACTIONS + (
    ("lots", ((0,),)), ("behind", NIL), ("each", ONE), ("lots", ((0,), (1,), (2,))), ["each"], ("forth", ONE))
ODD_PARTINGS = ODD_VALUES + ODD_FRACTIONS + (
    PAIR, (PAIR,), (PAIR, FLAT), (FLAT, PAIR), (PAIR, one_table(3)), [PAIR, PAIR], (PAIR, PAIR, PAIR))
ODD_NUMBERS = ODD_VALUES + (ONE, "3", float)
NO_ROWS = tuple(odd for odd in ODD_VALUES if not (type(odd) is tuple and len(odd) == 2)) + (
    ROW[:1], ROW + ROW[:1], list(ROW), {ONE: 1, TWO: 2}, dict(enumerate(ROW)), "ab", b"ab")


def odd_rows():
    """Wrong rows of two, each with the index of the first number that is wrong."""
    found = [(odd, None) for odd in NO_ROWS]
    for odd in ODD_VALUES + ODD_FRACTIONS:
        found += [((odd, ONE), 0), ((ONE, odd), 1), ((odd, odd), 0)]
    return found


def wrong(kind):
    """All wrong arguments of a kind: (argument, class of the error, what it has)."""
    if kind == "row":
        return [(odd, errors.InvalidRow, {"index": index}) for odd, index in odd_rows()]
    odds, error = {
        "table": (ODD_TABLES, errors.InvalidTable), "method": (ODD_METHODS, errors.InvalidMethod),
        "same": (ODD_TABLES + (one_table(1), one_table(3)), errors.InvalidTable),
        "parting": (ODD_PARTINGS, errors.InvalidParting),
        "count": (ODD_NUMBERS + (-1, 41), errors.InvalidNumber),
        "size": (ODD_NUMBERS + (0, 6), errors.InvalidNumber),
        "many": (ODD_NUMBERS + (0, -5, 10 ** 6 + 1, 10 ** 7), errors.InvalidNumber),
        "amount": (ODD_VALUES + ODD_FRACTIONS + (NIL, LESS, (-1, 3), [ONE], (ONE,)), errors.InvalidFraction),
        "factor": (ODD_VALUES + ODD_FRACTIONS + (NIL, [ONE], (ONE,), "ab"), errors.InvalidFactor),
        "served": (ODD_PARTINGS + ((one_table(1),) * 2, (RING, RING)), errors.InvalidParting),
    }[kind]
    return [(odd, error, {"given": odd}) for odd in odds]


# Each function with its parameters in order: (name, kind of what is wrong for it, a right argument).
TABLE, ROW_OF_TWO, METHOD = ("table", "table", PAIR), ("row", "row", ROW), ("method", "method", ("each",))
START = [("right", "row", ROW), ("guess", "row", ROW)]
PARTED, ERROR, MANY = ("parting", "parting", PARTING), ("error", "row", ROW), ("many", "many", 7)
FUNCTIONS = [
    (tables.product, [TABLE, ("other", "same", PAIR)]), (tables.turned, [TABLE]), (tables.determinant, [TABLE]),
    (tables.inverse, [TABLE]), (tables.is_symmetric, [TABLE]), (tables.polynomial_of, [TABLE]),
    (tables.is_positive, [TABLE]), (tables.form_at, [TABLE, ROW_OF_TWO]), (tables.low_row, [TABLE]),
    (methods.is_method, [("size", "size", 2), ("value", None, ("each",))]), (methods.split_of, [TABLE, METHOD]),
    (methods.parting_of, [TABLE, METHOD]), (partings.error_table, [PARTED]),
    (partings.solution, [TABLE] + START[:1]), (partings.residual, [TABLE] + START),
    (partings.step, [PARTED] + START), (partings.run, [PARTED] + START + [("count", "count", 3)]),
    (dying.does_die, [PARTED]), (dying.least_polynomial, [PARTED, ERROR]), (dying.does_die_from, [PARTED, ERROR]),
    (dying.stein_table, [PARTED]), (dying.staying_error, [PARTED]),
    (dying.does_serve, [TABLE, ("parting", "served", PARTING)]), (rates.size_square_near, [PARTED, MANY]),
    (rates.is_size_below, [PARTED, ("fraction", "amount", ONE)]),
    (rates.rate_word, [PARTED, ("other", "parting", PARTING)]), (falls.fall, [PARTED, ERROR]),
    (falls.is_lifted, [PARTED]), (levels.levels_of, [TABLE]), (levels.squares_of, [TABLE]),
    (levels.behind_polynomial, [TABLE, ("factor", "factor", TWO)]), (levels.best_near, [TABLE, MANY]),
]
INTERFACE = [
    (tables, "is_table product turned determinant inverse is_symmetric polynomial_of is_positive form_at low_row"),
    (methods, "is_method split_of parting_of"), (partings, "is_parting error_table solution residual step run"),
    (dying, "does_die least_polynomial does_die_from stein_table staying_error does_serve"),
    (rates, "size_square_near is_size_below rate_word"), (falls, "fall is_lifted"),
    (levels, "levels_of squares_of behind_polynomial best_near"),
]
# What is told with "last": (function, arguments, class of the error).
LAST = [
    (tables.is_positive, {"table": LEAN}, errors.NotSymmetric), (tables.low_row, {"table": LEAN}, errors.NotSymmetric),
    (tables.form_at, {"table": LEAN, "row": ROW}, errors.NotSymmetric),
    (tables.form_at, {"table": tables.turned(LEAN), "row": ROW}, errors.NotSymmetric),
    (methods.split_of, {"table": TURN, "method": ("each",)}, errors.NotSplit),
    (methods.split_of, {"table": NOUGHTS, "method": ("each",)}, errors.NotSplit),
    (methods.parting_of, {"table": TURN, "method": ("each",)}, errors.NotSplit),
    (methods.parting_of, {"table": FLAT, "method": ("each",)}, errors.NoInverse),
    (methods.parting_of, {"table": NOUGHTS, "method": ("each",)}, errors.NoInverse),
    (partings.solution, {"table": FLAT, "right": ROW}, errors.NoInverse),
    (falls.fall, {"parting": (LEAN, PAIR), "error": ROW}, errors.NotSymmetric),
    (falls.fall, {"parting": (tables.turned(LEAN), LEAN), "error": (NIL, NIL)}, errors.NotSymmetric),
    (falls.is_lifted, {"parting": (LEAN, LEAN)}, errors.NotSymmetric),
]
# What the functions on levels tell last: a table without an inverse, with a 0 along it, without levels, in this order.
LEVELLESS = [(FLAT, errors.NoInverse), (NOUGHTS, errors.NoInverse), (FLAT_RING, errors.NoInverse),
             (TURN, errors.NotSplit), (BARE_RING, errors.NotSplit), (RING, errors.NotLevelled)]
for odd_table, told_error in LEVELLESS:
    LAST += [(levels.squares_of, {"table": odd_table}, told_error),
             (levels.behind_polynomial, {"table": odd_table, "factor": ONE}, told_error),
             (levels.best_near, {"table": odd_table, "many": 3}, told_error)]


class WrongArguments(unittest.TestCase):
    def refused(self, function, arguments, error, told):
        """By position, by name, and by name the other way round."""
        names = list(arguments)
        calls = [(tuple(arguments.values()), {}), ((), arguments),
                 ((), {name: arguments[name] for name in names[::-1]})]
        for by_position, by_name in calls:
            with self.assertRaises(errors.SweepError) as caught:
                function(*by_position, **by_name)
            self.assertIs(type(caught.exception), error, (function.__name__, told.get("index")))
            self.assertEqual(list(vars(caught.exception)), list(told))
            for name, value in told.items():
                self.assertIs(getattr(caught.exception, name), value)

    def test_right_arguments(self):
        for function, parameters in FUNCTIONS:
            right = {name: value for name, _, value in parameters}
            by_name = function(**right)
            self.assertEqual(function(*right.values()), by_name)
            self.assertEqual(function(**right), by_name)

    def test_defined_where_the_document_lists_them(self):
        for module, names in INTERFACE:
            for name in names.split():
                self.assertEqual(getattr(module, name).__module__, module.__name__)

    def test_names_of_parameters(self):
        for function, parameters in FUNCTIONS:
            told = function.__code__.co_varnames[:function.__code__.co_argcount]
            self.assertEqual(list(told), [name for name, _, _ in parameters])
        for function in (tables.is_table, partings.is_parting):
            self.assertEqual(function.__code__.co_varnames[:function.__code__.co_argcount], ("value",))

    def test_each_wrong_argument_alone(self):
        for function, parameters in FUNCTIONS:
            right = {name: value for name, _, value in parameters}
            for name, kind, _ in parameters:
                for odd, error, told in wrong(kind) if kind else ():
                    self.refused(function, swapped(right, name, odd), error, told)

    def test_the_first_wrong_argument_counts(self):
        for function, parameters in FUNCTIONS:
            checked = [(name, kind) for name, kind, _ in parameters if kind]
            for at, (first, kind) in enumerate(checked):
                for later, other in checked[at + 1:]:
                    right = {name: value for name, _, value in parameters}
                    for odd, error, told in wrong(kind)[::3]:
                        for beside, _, _ in wrong(other)[::17]:
                            together = swapped(swapped(right, first, odd), later, beside)
                            self.refused(function, together, error, told)

    def test_all_wrong_together(self):
        for function, parameters in FUNCTIONS:
            for odd in (None, True, (), [], "x", 10 ** 300):
                together = {name: odd for name, _, _ in parameters}
                first = parameters[0][1]
                error = [error for _, error, _ in wrong(first)][0]
                self.refused(function, together, error, {"given": odd})

    def test_last(self):
        for function, arguments, error in LAST:
            self.refused(function, arguments, error, {})

    def test_last_comes_behind_every_other_error(self):
        for function, arguments, _ in LAST:
            parameters = [found for told, found in FUNCTIONS if told == function][0]
            for name, kind, _ in parameters:
                for odd, error, told in wrong(kind):
                    self.refused(function, swapped(arguments, name, odd), error, told)

    def test_rows_of_each_number(self):
        for size in (1, 2, 3, 4, 5):
            table = one_table(size)
            row = (ONE,) * size
            for at in range(size):
                odd = row[:at] + ((2, 4),) + row[at + 1:]
                later = row[:at] + ((2, 4),) * (size - at)
                for wrong_row in (odd, later):
                    self.refused(tables.form_at, {"table": table, "row": wrong_row}, errors.InvalidRow, {"index": at})
                    self.refused(partings.solution, {"table": table, "right": wrong_row}, errors.InvalidRow,
                                 {"index": at})
                    self.refused(partings.residual, {"table": table, "right": row, "guess": wrong_row},
                                 errors.InvalidRow, {"index": at})
            for wrong_row in (row[1:], row + (ONE,), list(row), ((2, 4),) * (size + 1)):
                self.refused(partings.step, {"parting": (table, table), "right": row, "guess": wrong_row},
                             errors.InvalidRow, {"index": None})

    def test_rows_of_each_number_as_errors(self):
        for size in (1, 2, 3, 4, 5):
            parting, row = (one_table(size),) * 2, (ONE,) * size
            for function in (dying.least_polynomial, dying.does_die_from, falls.fall):
                for at in range(size):
                    odd = row[:at] + ((2, 4),) + row[at + 1:]
                    self.refused(function, {"parting": parting, "error": odd}, errors.InvalidRow, {"index": at})
                for odd in (row[1:], row + (ONE,), list(row), ((2, 4),) * (size + 1)):
                    self.refused(function, {"parting": parting, "error": odd}, errors.InvalidRow, {"index": None})

    def test_tables_and_partings_of_different_numbers(self):
        for size in (1, 2, 3, 4, 5):
            for other in (1, 2, 3, 4, 5):
                parting = (one_table(other), one_table(other))
                if size != other:
                    self.refused(dying.does_serve, {"table": one_table(size), "parting": parting},
                                 errors.InvalidParting, {"given": parting})
                    self.assertEqual(rates.rate_word((one_table(size),) * 2, parting), "same")
        # A table that is not symmetric is told of behind a wrong parting only.
        rings = (RING, RING)
        self.refused(dying.does_serve, {"table": LEAN, "parting": rings}, errors.InvalidParting, {"given": rings})
        self.assertIs(dying.does_serve(LEAN, PARTING), False)

    def test_ends_of_what_may_be_passed(self):
        for many in (1, 10 ** 6):
            self.assertEqual(rates.size_square_near(PARTING, many), (0, True))
            self.assertEqual(levels.best_near(one_table(2), many), (many, True))
        for fraction in ((1, 10 ** 399), (10 ** 399, 1)):
            self.assertIs(rates.is_size_below(PARTING, fraction), True)
            self.assertEqual(levels.behind_polynomial(one_table(1), fraction)[1], ONE)
        self.assertEqual(levels.behind_polynomial(one_table(1), (-1, 3)), ((-4, 3), ONE))

    def test_singular_parts_of_a_parting(self):
        for size in (1, 2, 3, 4, 5):
            flat, one = table_of(singular_rows(size, 2)), one_table(size)
            for odd in ((flat, one), (one, flat)):
                self.refused(partings.error_table, {"parting": odd}, errors.InvalidParting, {"given": odd})
                self.refused(dying.does_die, {"parting": odd}, errors.InvalidParting, {"given": odd})
                self.refused(rates.rate_word, {"parting": (one, one), "other": odd}, errors.InvalidParting,
                             {"given": odd})


if __name__ == "__main__":
    unittest.main()
