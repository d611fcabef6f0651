"""Wrong arguments of every function: which error comes first, with what, by position and by name."""
import unittest

from helpers import NIL, ODD_FRACTIONS, ODD_VALUES, ONE, TWO, one_table, singular_rows, swapped, table_of
from sweepends import errors, methods, partings, tables

PAIR = table_of([[2, -1], [-1, 2]])
LEAN = table_of([[1, 2], [0, 1]])
FLAT = table_of([[1, 2], [2, 4]])
TURN = table_of([[0, 1], [1, 0]])
NOUGHTS = ((NIL, NIL), (NIL, NIL))
PARTING = (PAIR, PAIR)
ROW = (ONE, TWO)
ODD_TABLES = ODD_VALUES + ODD_FRACTIONS + (
    one_table(6), PAIR[:1], [list(row) for row in PAIR], list(PAIR), PAIR + PAIR[:1], (ROW, (ONE, (2, 2))),
    (ROW, (ONE, (True, 1))), (ROW, [ONE, ONE]), ROW)
ODD_METHODS = ODD_VALUES + ODD_FRACTIONS + (
    ("lots", ((0,),)), ("behind", NIL), ("each", ONE), ("lots", ((0,), (1,), (2,))), ["each"], ("forth", ONE))
ODD_PARTINGS = ODD_VALUES + ODD_FRACTIONS + (
    PAIR, (PAIR,), (PAIR, FLAT), (FLAT, PAIR), (PAIR, one_table(3)), [PAIR, PAIR], (PAIR, PAIR, PAIR))
ODD_NUMBERS = ODD_VALUES + (ONE, "3", float)
NO_ROWS = tuple(odd for odd in ODD_VALUES if not (type(odd) is tuple and len(odd) == 2)) + (
    ROW[:1], ROW + ROW[:1], list(ROW), {ONE: 1, TWO: 2}, dict(enumerate(ROW)), "ab", b"ab")


def odd_rows():
    """Wrong rows of two, each with the index of the first number that is wrong."""
    found = [(odd, None) for odd in NO_ROWS]
    for odd in ODD_VALUES + ODD_FRACTIONS:
        found += [((odd, ONE), 0), ((ONE, odd), 1), ((odd, odd), 0)]
    return found


def wrong(kind):
    """All wrong arguments of a kind: (argument, class of the error, what it has)."""
    if kind == "row":
        return [(odd, errors.InvalidRow, {"index": index}) for odd, index in odd_rows()]
    odds, error = {
        "table": (ODD_TABLES, errors.InvalidTable), "method": (ODD_METHODS, errors.InvalidMethod),
        "same": (ODD_TABLES + (one_table(1), one_table(3)), errors.InvalidTable),
        "parting": (ODD_PARTINGS, errors.InvalidParting),
        "count": (ODD_NUMBERS + (-1, 41), errors.InvalidNumber),
        "size": (ODD_NUMBERS + (0, 6), errors.InvalidNumber),
    }[kind]
    return [(odd, error, {"given": odd}) for odd in odds]


# Each function with its parameters in order: (name, kind of what is wrong for it, a right argument).
TABLE, ROW_OF_TWO, METHOD = ("table", "table", PAIR), ("row", "row", ROW), ("method", "method", ("each",))
START = [("right", "row", ROW), ("guess", "row", ROW)]
FUNCTIONS = [
    (tables.product, [TABLE, ("other", "same", PAIR)]), (tables.turned, [TABLE]), (tables.determinant, [TABLE]),
    (tables.inverse, [TABLE]), (tables.is_symmetric, [TABLE]), (tables.polynomial_of, [TABLE]),
    (tables.is_positive, [TABLE]), (tables.form_at, [TABLE, ROW_OF_TWO]), (tables.low_row, [TABLE]),
    (methods.is_method, [("size", "size", 2), ("value", None, ("each",))]), (methods.split_of, [TABLE, METHOD]),
    (methods.parting_of, [TABLE, METHOD]), (partings.error_table, [("parting", "parting", PARTING)]),
    (partings.solution, [TABLE] + START[:1]), (partings.residual, [TABLE] + START),
    (partings.step, [("parting", "parting", PARTING)] + START),
    (partings.run, [("parting", "parting", PARTING)] + START + [("count", "count", 3)]),
]
INTERFACE = [
    (tables, "is_table product turned determinant inverse is_symmetric polynomial_of is_positive form_at low_row"),
    (methods, "is_method split_of parting_of"), (partings, "is_parting error_table solution residual step run"),
]
# What is told with "last": (function, arguments, class of the error).
LAST = [
    (tables.is_positive, {"table": LEAN}, errors.NotSymmetric), (tables.low_row, {"table": LEAN}, errors.NotSymmetric),
    (tables.form_at, {"table": LEAN, "row": ROW}, errors.NotSymmetric),
    (tables.form_at, {"table": tables.turned(LEAN), "row": ROW}, errors.NotSymmetric),
    (methods.split_of, {"table": TURN, "method": ("each",)}, errors.NotSplit),
    (methods.split_of, {"table": NOUGHTS, "method": ("each",)}, errors.NotSplit),
    (methods.parting_of, {"table": TURN, "method": ("each",)}, errors.NotSplit),
    (methods.parting_of, {"table": FLAT, "method": ("each",)}, errors.NoInverse),
    (methods.parting_of, {"table": NOUGHTS, "method": ("each",)}, errors.NoInverse),
    (partings.solution, {"table": FLAT, "right": ROW}, errors.NoInverse),
]


class WrongArguments(unittest.TestCase):
    def refused(self, function, arguments, error, told):
        """By position, by name, and by name the other way round."""
        names = list(arguments)
        calls = [(tuple(arguments.values()), {}), ((), arguments),
                 ((), {name: arguments[name] for name in names[::-1]})]
        for by_position, by_name in calls:
            with self.assertRaises(errors.SweepError) as caught:
                function(*by_position, **by_name)
            self.assertIs(type(caught.exception), error, (function.__name__, told.get("index")))
            self.assertEqual(list(vars(caught.exception)), list(told))
            for name, value in told.items():
                self.assertIs(getattr(caught.exception, name), value)

    def test_right_arguments(self):
        for function, parameters in FUNCTIONS:
            right = {name: value for name, _, value in parameters}
            by_name = function(**right)
            self.assertEqual(function(*right.values()), by_name)
            self.assertEqual(function(**right), by_name)

    def test_defined_where_the_document_lists_them(self):
        for module, names in INTERFACE:
            for name in names.split():
                self.assertEqual(getattr(module, name).__module__, module.__name__)

    def test_names_of_parameters(self):
        for function, parameters in FUNCTIONS:
            told = function.__code__.co_varnames[:function.__code__.co_argcount]
            self.assertEqual(list(told), [name for name, _, _ in parameters])
        for function in (tables.is_table, partings.is_parting):
            self.assertEqual(function.__code__.co_varnames[:function.__code__.co_argcount], ("value",))

    def test_each_wrong_argument_alone(self):
        for function, parameters in FUNCTIONS:
            right = {name: value for name, _, value in parameters}
            for name, kind, _ in parameters:
                for odd, error, told in wrong(kind) if kind else ():
                    self.refused(function, swapped(right, name, odd), error, told)

    def test_the_first_wrong_argument_counts(self):
        for function, parameters in FUNCTIONS:
            checked = [(name, kind) for name, kind, _ in parameters if kind]
            for at, (first, kind) in enumerate(checked):
                for later, other in checked[at + 1:]:
                    right = {name: value for name, _, value in parameters}
                    for odd, error, told in wrong(kind)[::3]:
                        for beside, _, _ in wrong(other)[::17]:
                            together = swapped(swapped(right, first, odd), later, beside)
                            self.refused(function, together, error, told)

    def test_all_wrong_together(self):
        for function, parameters in FUNCTIONS:
            for odd in (None, True, (), [], "x", 10 ** 300):
                together = {name: odd for name, _, _ in parameters}
                first = parameters[0][1]
                error = [error for _, error, _ in wrong(first)][0]
                self.refused(function, together, error, {"given": odd})

    def test_last(self):
        for function, arguments, error in LAST:
            self.refused(function, arguments, error, {})

    def test_last_comes_behind_every_other_error(self):
        for function, arguments, _ in LAST:
            parameters = [found for told, found in FUNCTIONS if told == function][0]
            for name, kind, _ in parameters:
                for odd, error, told in wrong(kind):
                    self.refused(function, swapped(arguments, name, odd), error, told)

    def test_rows_of_each_number(self):
        for size in (1, 2, 3, 4, 5):
            table = one_table(size)
            row = (ONE,) * size
            for at in range(size):
                odd = row[:at] + ((2, 4),) + row[at + 1:]
                later = row[:at] + ((2, 4),) * (size - at)
                for wrong_row in (odd, later):
                    self.refused(tables.form_at, {"table": table, "row": wrong_row}, errors.InvalidRow, {"index": at})
                    self.refused(partings.solution, {"table": table, "right": wrong_row}, errors.InvalidRow,
                                 {"index": at})
                    self.refused(partings.residual, {"table": table, "right": row, "guess": wrong_row},
                                 errors.InvalidRow, {"index": at})
            for wrong_row in (row[1:], row + (ONE,), list(row), ((2, 4),) * (size + 1)):
                self.refused(partings.step, {"parting": (table, table), "right": row, "guess": wrong_row},
                             errors.InvalidRow, {"index": None})

    def test_singular_parts_of_a_parting(self):
        for size in (1, 2, 3, 4, 5):
            flat, one = table_of(singular_rows(size, 2)), one_table(size)
            for odd in ((flat, one), (one, flat)):
                self.refused(partings.error_table, {"parting": odd}, errors.InvalidParting, {"given": odd})


if __name__ == "__main__":
    unittest.main()
