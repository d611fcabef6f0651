"""What the tests of wrong arguments share: what is wrong for each kind of parameter, and how it is refused."""
from helpers import LESS, NIL, ODD_FRACTIONS, ODD_VALUES, ONE, TWO, one_table, swapped, table_of
from sweepends import errors

PAIR = table_of([[2, -1], [-1, 2]])
LEAN = table_of([[1, 2], [0, 1]])
FLAT = table_of([[1, 2], [2, 4]])
TURN = table_of([[0, 1], [1, 0]])
NOUGHTS = ((NIL, NIL), (NIL, NIL))
RING = table_of([[2, -1, -1], [-1, 2, -1], [-1, -1, 4]])
FLAT_RING, BARE_RING = table_of([[1, 1, 1]] * 3), table_of([[0, 1, 1], [1, 0, 1], [1, 1, 0]])
PARTING = (PAIR, PAIR)
ROW = (ONE, TWO)
ODD_TABLES = ODD_VALUES + ODD_FRACTIONS + (
    one_table(6), PAIR[:1], [list(row) for row in PAIR], list(PAIR), PAIR + PAIR[:1], (ROW, (ONE, (2, 2))),
    (ROW, (ONE, (True, 1))), (ROW, [ONE, ONE]), ROW)
ODD_METHODS = ODD_VALUES + ODD_FRACTIONS + (
    ("lots", ((0,),)), ("behind", NIL), ("each", ONE), ("lots", ((0,), (1,), (2,))), ["each"], ("forth", ONE))
ODD_PARTINGS = ODD_VALUES + ODD_FRACTIONS + (
    PAIR, (PAIR,), (PAIR, FLAT), (FLAT, PAIR), (PAIR, one_table(3)), [PAIR, PAIR], (PAIR, PAIR, PAIR))
ODD_BOUNDS = ODD_VALUES + ODD_FRACTIONS + (
    PAIR, (PAIR,), (PAIR, RING), [PAIR, PAIR], (PAIR, PAIR, PAIR), (PAIR, LEAN), (LEAN, PAIR))
ODD_NUMBERS = ODD_VALUES + (ONE, "3", float)
NO_ROWS = tuple(odd for odd in ODD_VALUES if not (type(odd) is tuple and len(odd) == 2)) + (
    ROW[:1], ROW + ROW[:1], list(ROW), {ONE: 1, TWO: 2}, dict(enumerate(ROW)), "ab", b"ab")


def odd_rows():
    """Wrong rows of two, each with the index of the first number that is wrong."""
    found = [(odd, None) for odd in NO_ROWS]
    for odd in ODD_VALUES + ODD_FRACTIONS:
        found += [((odd, ONE), 0), ((ONE, odd), 1), ((odd, odd), 0)]
    return found


def odd_amounts():
    """Wrong amounts for two unknowns, each with the index of the first that is wrong."""
    found = odd_rows()
    for odd in (NIL, LESS, (-1, 10 ** 300), (-7, 2)):
        found += [((odd, ONE), 0), ((ONE, odd), 1), ((odd, (2, 2)), 0), (((2, 2), odd), 0)]
    return found


def odd_highs():
    """Wrong rows of which no number may be below that of ROW, each with the index of the first that is wrong."""
    found = odd_rows()
    for low in (NIL, LESS, (999, 1000), (-10 ** 300, 1)):
        found += [((low, TWO), 0), ((low, NIL), 0), ((low, (2, 2)), 0)]
    for low in (NIL, LESS, ONE, (1999, 1000)):
        found += [((ONE, low), 1), (((3, 2), low), 1), (((2, 2), low), 0)]
    return found


FIRST, SECOND = (0, (0, 1)), (1, (2, 0))
ODD_STEPS = ODD_VALUES + ODD_FRACTIONS + (
    (2, (0, 0)), (-1, (0, 0)), (True, (0, 0)), (False, (0, 0)), ("0", (0, 0)), ((0,), (0, 0)), (None, (0, 0)), (0,),
    (0, 1), (0, (0,)), (0, (0, 0, 0)), (0, [0, 0]), [0, (0, 0)], (0, (0, 0), 0), (0, (-1, 0)), (0, (0, -1)),
    (0, (True, 0)), (0, (0, False)), (0, (0, 3)), (0, (4, 0)), (0, (10 ** 400, 0)), (1, (0, 5)), (0, ("0", 0)),
    (0, ((0,), 0)), (0, None), (0, "00"), (0, b"00"), ((0, 1), (0, 0)))


def odd_late_steps():
    """Wrong late steps for two unknowns, each with the index of the first that is wrong."""
    found = [(odd, None) for odd in ODD_VALUES if type(odd) is not tuple] + [([FIRST, SECOND], None), ([], None)]
    for odd in ODD_STEPS:
        found += [((odd,), 0), ((FIRST, odd), 1), ((FIRST, SECOND, odd), 2), ((FIRST, odd, odd, SECOND), 1)]
    # What a step picks has to be there ahead of it.
    found += [(((0, (2, 0)),), 0), ((SECOND,), 0), ((FIRST, (1, (3, 0))), 1), ((FIRST, (1, (0, 2))), 1),
              ((FIRST, SECOND, (1, (2, 3))), 2), ((FIRST,) * 199 + ((0, (201, 0)),), 199)]
    return found + [((FIRST,) * 201, 200), ((FIRST,) * 400, 200), ((FIRST,) * 200 + (None,), 200)]


SIDE, SLOPE = ((ONE, NIL), TWO), ((ONE, ONE), NIL)
FENCE = (SIDE, SLOPE)
ODD_SIDES = ODD_VALUES + ODD_FRACTIONS + (
    ((NIL, NIL), ONE), ((ONE, (2, 2)), ONE), ((ONE, ONE), (2, 2)), ((ONE, ONE), 1), ((ONE, ONE), True), ((ONE, ONE),),
    ((ONE, ONE), ONE, ONE), [(ONE, ONE), ONE], ([ONE, ONE], ONE), ((ONE, [1, 1]), ONE), ((ONE, ONE), [1, 1]),
    ((), ONE), ((ONE,) * 6, ONE), (ONE, (ONE, ONE)), ((ONE, True), ONE), ((ONE, ONE), (ONE,)))


def odd_walls():
    """Wrong walls, each with the index of the first that is wrong."""
    found = [(odd, None) for odd in ODD_VALUES if type(odd) is not tuple or len(odd) == 0]
    found += [([SIDE, SLOPE], None), ({0: SIDE}, None), ({SIDE: 1}, None), (SIDE, 0), ((SIDE[0],), 0)]
    for odd in ODD_SIDES:
        found += [((odd,), 0), ((SIDE, odd), 1), ((SIDE, SLOPE, odd, odd), 2), ((odd, SIDE), 0)]
    for other in (((ONE,), ONE), ((ONE,) * 3, ONE), ((NIL,) * 4 + (ONE,), ONE)):
        found += [((SIDE, other), 1), ((other, SIDE), 1), ((other, other, SIDE), 2), ((SIDE, SLOPE, other, None), 2)]
    return found + [((SIDE,) * 7, 6), ((SIDE,) * 9, 6), ((SIDE, SLOPE) * 3 + (None,), 6), ((SIDE,) * 5 + (None,), 5)]


def odd_orders():
    """Wrong orders for two walls, each with the index of the first element that is wrong."""
    found = [(odd, None) for odd in ODD_VALUES if type(odd) is not tuple or len(odd) == 0]
    found += [([0, 1], None), ({0: 1}, None), (range(2), None), ("01", None), (b"01", None), (0, None)]
    for odd in ODD_VALUES + (2, 3, 10 ** 399, -2, True, False, (0,), "0", ONE, [0], NIL):
        found += [((odd,), 0), ((0, odd), 1), ((1, 0, odd, odd), 2), ((odd, 1), 0)]
    return found + [((0,) * 25, 24), ((0, 1) * 20, 24), ((1,) * 24 + (2,), 24), ((1,) * 23 + (2, 0), 23)]


def odd_squares():
    """Wrong falling rows, each with the index of the first element that is wrong."""
    found = [(odd, None) for odd in ODD_VALUES if type(odd) is not tuple or not 2 <= len(odd) <= 6]
    found += [((), None), ((ONE,), None), ((NIL,), None), ([ONE, NIL], None), ((ONE,) * 6 + (NIL,), None),
              ((None,) * 7, None), ({ONE: 1, NIL: 2}, None), ("10", None)]
    for odd in ODD_VALUES + ODD_FRACTIONS:
        found += [((odd, NIL), 0), ((ONE, odd), 1), ((TWO, ONE, odd, odd), 2), ((odd, ONE, NIL), 0)]
    # 0 or below it too early, above 0 at last, and what rises.
    found += [((NIL, NIL), 0), ((LESS, NIL), 0), ((ONE, NIL, NIL), 1), ((ONE, ONE), 1), ((ONE, LESS), 1),
              ((TWO, ONE, (-1, 5), NIL), 2), ((ONE, TWO, NIL), 1), ((TWO, ONE, (3, 2), NIL), 2),
              ((ONE, (1, 10 ** 300)), 1), ((ONE, (10 ** 300 + 1, 10 ** 300), NIL), 1),
              ((ONE, TWO), 1), ((TWO, TWO, TWO), 2), ((NIL, ONE, NIL), 0),
              ((ONE, TWO, None), 1), ((ONE, NIL, None), 1), ((TWO, TWO, TWO, TWO, TWO, ONE), 5)]
    return found


ODD_POLYNOMIALS = ODD_VALUES + ODD_FRACTIONS + (
    (ONE,), (ONE, ONE, ONE, ONE), [ONE, ONE, ONE], (NIL, ONE, ONE), (ONE, ONE, NIL), (ONE, ONE, TWO), (ONE, ONE, LESS),
    (ONE, ONE, (2, 2)), ((2, 4), ONE, ONE), (ONE, None, ONE), (ONE, ONE), (NIL, NIL, ONE), (ONE, ONE, True),
    (ONE, ONE, 1))


def wrong(kind):
    """All wrong arguments of a kind: (argument, class of the error, what it has)."""
    if kind == "row":
        return [(odd, errors.InvalidRow, {"index": index}) for odd, index in odd_rows()]
    if kind == "high row":
        return [(odd, errors.InvalidRow, {"index": index}) for odd, index in odd_highs()]
    if kind == "amounts":
        return [(odd, errors.InvalidAmounts, {"index": index}) for odd, index in odd_amounts()]
    if kind == "walls":
        return [(odd, errors.InvalidWalls, {"index": index}) for odd, index in odd_walls()]
    if kind == "order":
        return [(odd, errors.InvalidOrder, {"index": index}) for odd, index in odd_orders()]
    if kind == "squares":
        return [(odd, errors.InvalidRow, {"index": index}) for odd, index in odd_squares()]
    if kind == "steps":
        return [(odd, errors.InvalidSteps, {"index": index}) for odd, index in odd_late_steps()]
    odds, error = {
        "table": (ODD_TABLES, errors.InvalidTable), "method": (ODD_METHODS, errors.InvalidMethod),
        "same": (ODD_TABLES + (one_table(1), one_table(3)), errors.InvalidTable),
        "parting": (ODD_PARTINGS, errors.InvalidParting),
        "count": (ODD_NUMBERS + (-1, 41), errors.InvalidNumber),
        "size": (ODD_NUMBERS + (0, 6), errors.InvalidNumber),
        "many": (ODD_NUMBERS + (0, -5, 10 ** 6 + 1, 10 ** 7), errors.InvalidNumber),
        "amount": (ODD_VALUES + ODD_FRACTIONS + (NIL, LESS, (-1, 3), [ONE], (ONE,)), errors.InvalidFraction),
        "factor": (ODD_VALUES + ODD_FRACTIONS + (NIL, [ONE], (ONE,), "ab"), errors.InvalidFactor),
        "tidy": (ODD_NUMBERS + (0, -2, 201, 10 ** 6), errors.InvalidNumber),
        "degree": (ODD_NUMBERS + (-1, -5, 6, 60), errors.InvalidNumber),
        "one or two": (ODD_NUMBERS + (0, -1, 3, 60), errors.InvalidNumber),
        "sixty": (ODD_NUMBERS + (-1, -60, 61, 200), errors.InvalidNumber),
        "bounds": (ODD_BOUNDS, errors.InvalidBounds),
        "fraction": (ODD_VALUES + ODD_FRACTIONS + ([ONE], (ONE,), "ab"), errors.InvalidFraction),
        "above one": (ODD_VALUES + ODD_FRACTIONS + (NIL, LESS, ONE, (999, 1000), (-5, 2), [TWO]),
                      errors.InvalidFraction),
        "begun": (ODD_NUMBERS + (0, -1, 6, 60), errors.InvalidNumber),
        "place": (ODD_NUMBERS + (-2, 2, 3, 6), errors.InvalidIndex),
        "share": (ODD_VALUES + ODD_FRACTIONS + (NIL, LESS, TWO, (-1, 3), (5, 2), (3, 1), [ONE], (ONE,), "ab"),
                  errors.InvalidShare),
        "polynomial": (ODD_POLYNOMIALS, errors.InvalidPolynomial),
        "served": (ODD_PARTINGS + ((one_table(1),) * 2, (RING, RING)), errors.InvalidParting),
    }[kind]
    return [(odd, error, {"given": odd}) for odd in odds]


class Refusals:
    """Tests of functions, each with its parameters in order: (name, kind of what is wrong for it, a right argument).

    `interface` tells what each module has to define, `asked` what takes any value, `last` what is told with "last":
    (function, arguments, class of the error).
    """

    functions, interface, asked, last = (), (), (), ()

    def refused(self, function, arguments, error, told):
        """By position, by name, and by name the other way round."""
        names = list(arguments)
        calls = [(tuple(arguments.values()), {}), ((), arguments),
                 ((), {name: arguments[name] for name in names[::-1]})]
        for by_position, by_name in calls:
            with self.assertRaises(errors.SweepError) as caught:
                function(*by_position, **by_name)
            self.assertIs(type(caught.exception), error, (function.__name__, told.get("index")))
            self.assertEqual(list(vars(caught.exception)), list(told))
            for name, value in told.items():
                self.assertIs(getattr(caught.exception, name), value)

    def test_right_arguments(self):
        for function, parameters in self.functions:
            right = {name: value for name, _, value in parameters}
            by_name = function(**right)
            self.assertEqual(function(*right.values()), by_name)
            self.assertEqual(function(**right), by_name)

    def test_defined_where_the_document_lists_them(self):
        for module, names in self.interface:
            for name in names.split():
                self.assertEqual(getattr(module, name).__module__, module.__name__)

    def test_names_of_parameters(self):
        for function, parameters in self.functions:
            told = function.__code__.co_varnames[:function.__code__.co_argcount]
            self.assertEqual(list(told), [name for name, _, _ in parameters])
        for function in self.asked:
            self.assertEqual(function.__code__.co_varnames[:function.__code__.co_argcount], ("value",))
            self.assertTrue(all(function(odd) is False for odd in ODD_VALUES + ODD_FRACTIONS))

    def test_each_wrong_argument_alone(self):
        for function, parameters in self.functions:
            right = {name: value for name, _, value in parameters}
            for name, kind, _ in parameters:
                for odd, error, told in wrong(kind) if kind else ():
                    self.refused(function, swapped(right, name, odd), error, told)

    def test_the_first_wrong_argument_counts(self):
        for function, parameters in self.functions:
            checked = [(name, kind) for name, kind, _ in parameters if kind]
            for at, (first, kind) in enumerate(checked):
                for later, other in checked[at + 1:]:
                    right = {name: value for name, _, value in parameters}
                    for odd, error, told in wrong(kind)[::3]:
                        for beside, _, _ in wrong(other)[::17]:
                            together = swapped(swapped(right, first, odd), later, beside)
                            self.refused(function, together, error, told)

    def test_all_wrong_together(self):
        for function, parameters in self.functions:
            for odd in (None, True, (), [], "x", 10 ** 300):
                together = {name: odd for name, _, _ in parameters}
                error, told = wrong(parameters[0][1])[0][1:]
                self.refused(function, together, error, {name: odd if name == "given" else None for name in told})

    def test_last(self):
        for function, arguments, error in self.last:
            self.refused(function, arguments, error, {})

    def test_last_comes_behind_every_other_error(self):
        for function, arguments, _ in self.last:
            parameters = [found for told, found in self.functions if told == function][0]
            for name, kind, _ in parameters:
                for odd, error, told in wrong(kind):
                    self.refused(function, swapped(arguments, name, odd), error, told)
