"""Methods: what is one, and the tables M that they make."""
import unittest
from fractions import Fraction
from itertools import permutations, product as all_of

from helpers import (
    HALF, LESS, NIL, ODD_FRACTIONS, ODD_VALUES, ONE, TWO, Prickly, det, made_rows, number, singular_rows, table_of)
from sweepends.errors import InvalidMethod, InvalidNumber, NoInverse, NotSplit
from sweepends.methods import is_method, parting_of, split_of

SIZES = (1, 2, 3, 4, 5)
FACTORS = (ONE, HALF, TWO, LESS, (3, 2), (-7, 5), (10 ** 30 + 1, 10 ** 30))


def all_lots(size):
    """All LOTS for so many unknowns, in all orders."""
    found = set()
    for marks in all_of(range(size), repeat=size):
        used = sorted(set(marks))
        lots = [tuple(at for at in range(size) if marks[at] == mark) for mark in used]
        for order in permutations(lots):
            found.add(order)
    return sorted(found)


def all_methods(size):
    found = [("each",)]
    found += [(name, factor) for name in ("behind", "back") for factor in FACTORS]
    return found + [(name, lots) for name in ("lots", "lots behind") for lots in all_lots(size)]


def lot_of(lots, at):
    return [place for place, lot in enumerate(lots) if at in lot][0]


def expected_split(rows, method):
    """M as the document tells it, with D, L and U."""
    size = len(rows)
    diagonal = [[rows[at][k] if at == k else Fraction(0) for k in range(size)] for at in range(size)]
    lower = [[rows[at][k] if at > k else Fraction(0) for k in range(size)] for at in range(size)]
    upper = [[rows[at][k] if at < k else Fraction(0) for k in range(size)] for at in range(size)]
    if method[0] == "each":
        return diagonal
    if method[0] in ("behind", "back"):
        beside = lower if method[0] == "behind" else upper
        return [[diagonal[at][k] / number(method[1]) + beside[at][k] for k in range(size)] for at in range(size)]
    places = [lot_of(method[1], at) for at in range(size)]
    if method[0] == "lots":
        return [[rows[at][k] if places[at] == places[k] else Fraction(0) for k in range(size)] for at in range(size)]
    return [[rows[at][k] if places[k] <= places[at] else Fraction(0) for k in range(size)] for at in range(size)]


class WhatIsAMethod(unittest.TestCase):
    def test_methods(self):
        for size in SIZES:
            methods = all_methods(size)
            for method in methods:
                self.assertIs(is_method(size, method), True)
        self.assertEqual([len(all_lots(size)) for size in SIZES], [1, 3, 13, 75, 541])

    def test_lots_of_another_number(self):
        for size in SIZES:
            for other in SIZES:
                for lots in all_lots(size)[:80]:
                    for name in ("lots", "lots behind"):
                        self.assertIs(is_method(other, (name, lots)), size == other)

    def test_odd_values(self):
        for size in SIZES:
            for odd in ODD_VALUES + ODD_FRACTIONS:
                self.assertIs(is_method(size, odd), False)
                self.assertIs(is_method(size, (odd,)), odd == "each" if isinstance(odd, str) else False)
                for name in ("behind", "back", "lots", "lots behind"):
                    self.assertIs(is_method(size, (name, odd)), False)
                self.assertIs(is_method(size, (odd, ONE)), False)
                self.assertIs(is_method(size, (odd, (tuple(range(size)),))), False)

    def test_wrong_forms(self):
        every = (tuple(range(3)),)
        for wrong in (("each", ()), ("each", None), ("each", ONE), ("behind",), ("back",), ("lots",), ("lots behind",),
                      ("behind", ONE, ONE), ("back", NIL), ("behind", NIL), ("lots", every, every), ["each"],
                      ["behind", ONE], ["lots", every], ("Each",), ("lots  behind", every), ("lots_behind", every),
                      ("lots", ONE), ("behind", every), (b"each",), (b"behind", ONE), "each", ("behind", ONE, ()),
                      ("forth", ONE), ("", ONE), ("each", "each"), (("each",),), ("behind", (1, 0)),
                      ("behind", (2, 2)), ("behind", [1, 1]), ("behind", (True, 1)), ("behind", 1)):
            self.assertIs(is_method(3, wrong), False, wrong)

    def test_wrong_lots(self):
        for wrong in ((), ((),), ((0, 1, 2), ()), ((), (0, 1, 2)), ((0, 2, 1),), ((0, 1), (1, 2)), ((0,), (2,)),
                      ((0, 0, 1, 2),), ((0, 1, 2, 3),), ((0, 1, 2), (3,)), ((-1, 0, 1),), ((1, 2, 3),), [(0, 1, 2)],
                      ([0, 1, 2],), ((0, 1), [2]), ((False, True, 2),), ((0, True, 2),), ((0, 1), (True,)), ("012",),
                      ((0, 1, None),), ((0, 1, "2"),), (0, 1, 2), ((0,), (1,), 2), ((0, (1,), 2),), None, "012",
                      ((0, 1, 2), (0, 1, 2)), ((2, 1, 0),), ((0, 1, Prickly()),), ((0,), Prickly()), range(3),
                      (range(3),), {(0, 1, 2): 1}, ((0, 1, 10 ** 300),)):
            for name in ("lots", "lots behind"):
                self.assertIs(is_method(3, (name, wrong)), False)

    def test_size(self):
        for odd in ODD_VALUES + ODD_FRACTIONS[:20] + (0, 6, -1, 7):
            for method in (("each",), None):
                with self.assertRaises(InvalidNumber) as caught:
                    is_method(odd, method)
                self.assertIs(caught.exception.given, odd)
                with self.assertRaises(InvalidNumber) as caught:
                    is_method(value=method, size=odd)
                self.assertIs(caught.exception.given, odd)


class Splits(unittest.TestCase):
    def check(self, rows, method):
        table, split = table_of(rows), expected_split(rows, method)
        if det(split) == 0:
            with self.assertRaises(NotSplit):
                split_of(table, method)
            with self.assertRaises(NoInverse if det(rows) == 0 else NotSplit):
                parting_of(table, method)
            return "not split"
        self.assertEqual(split_of(table, method), table_of(split))
        if det(rows) == 0:
            with self.assertRaises(NoInverse):
                parting_of(table, method)
            return "no inverse"
        self.assertEqual(parting_of(table, method), (table, table_of(split)))
        return "parting"

    def test_all_methods(self):
        found = []
        for size in SIZES:
            methods = all_methods(size)
            for count, method in enumerate(methods):
                found.append(self.check(made_rows(size, count), method))
        self.assertGreater(found.count("parting"), 400)
        self.assertGreater(found.count("not split"), 10)

    def test_without_inverse(self):
        found = []
        for size in SIZES:
            methods = all_methods(size)[::1 + size // 4 * 9]
            for count, method in enumerate(methods):
                found.append(self.check(singular_rows(size, count), method))
        self.assertGreater(found.count("no inverse"), 50)
        self.assertGreater(found.count("not split"), 10)

    def test_of_few_whole_numbers(self):
        found = []
        for size in SIZES[:4]:
            for count, method in enumerate(all_methods(size)):
                found.append(self.check(made_rows(size, 500 + count, 1), method))
        self.assertGreater(found.count("not split"), 30)

    def test_no_inverse_ahead_of_not_split(self):
        noughts = ((NIL, NIL), (NIL, NIL))
        for method in all_methods(2):
            with self.assertRaises(NoInverse):
                parting_of(noughts, method)
            with self.assertRaises(NotSplit):
                split_of(noughts, method)
        turn = ((NIL, ONE), (ONE, NIL))
        for method in (("each",), ("behind", ONE), ("back", TWO), ("lots", ((0,), (1,))),
                       ("lots behind", ((1,), (0,)))):
            with self.assertRaises(NotSplit):
                parting_of(turn, method)
        self.assertEqual(parting_of(turn, ("lots", ((0, 1),))), (turn, turn))

    def test_order_of_lots_counts_behind(self):
        table = table_of([[1, 2, 3], [4, 5, 6], [7, 8, 10]])
        self.assertEqual(split_of(table, ("lots behind", ((2,), (0, 1)))),
                         table_of([[1, 2, 3], [4, 5, 6], [0, 0, 10]]))
        self.assertEqual(split_of(table, ("lots behind", ((1,), (2,), (0,)))),
                         table_of([[1, 2, 3], [0, 5, 0], [0, 8, 10]]))
        self.assertEqual(split_of(table, ("lots", ((1,), (0, 2)))), table_of([[1, 0, 3], [0, 5, 0], [7, 0, 10]]))

    def test_method_for_another_number(self):
        table = table_of([[1, 2], [3, 4]])
        for method in (("lots", ((0,),)), ("lots behind", ((0, 1, 2),)), ("behind", NIL), ("each", ()), None):
            for function in (split_of, parting_of):
                with self.assertRaises(InvalidMethod) as caught:
                    function(table, method)
                self.assertIs(caught.exception.given, method)

    def test_arguments_stay(self):
        table = table_of(made_rows(4, 5))
        method = ("lots behind", ((1, 3), (0,), (2,)))
        first = parting_of(table, method)
        self.assertEqual(parting_of(table=table, method=method), first)
        self.assertIs(first[0], table)


if __name__ == "__main__":
    unittest.main()
