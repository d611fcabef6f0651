"""Claims and papers: accepted where they are so, refused where they are not, bent or anything else; certificates."""
import unittest
from fractions import Fraction

from chosen import parting_for, single, turning
from claims import EXCLUDED, HALF, NAMES, bounds, fences, partings, regular_tables, symmetric_tables, tasks
from helpers import (
    LESS, NIL, ODD_FRACTIONS, ODD_VALUES, ONE, TWO, Prickly, nested, number, one_table, pair_of, row_of, table_of)
from sweepends import certificates
from sweepends.bounds import are_inverses_positive
from sweepends.checker import CHECKS, accepts
from sweepends.conjugate import conjugate_run
from sweepends.dying import does_die, does_die_from, does_serve, stein_table
from sweepends.inverses import is_inverse_positive
from sweepends.late import boxing_amounts
from sweepends.rates import rate_word
from sweepends.residuals import falling_row, never_stands
from sweepends.tables import is_positive
from sweepends.walls import nearest_point

PAIR, CROSS = table_of([[2, -1], [-1, 2]]), table_of([[1, 2], [2, 1]])
FOES, LEAN, TURN = table_of([[1, -2], [-2, 1]]), table_of([[1, 2], [0, 1]]), table_of([[0, 1], [1, 0]])
FLAT, NONE = table_of([[1, 1], [1, 1]]), (NIL, NIL)
DYING, GROWING = parting_for(single(HALF)), parting_for(single(-2))
TINY = (1, 10 ** 300)
# Two ones, which look like no fraction, are a right row for two unknowns.
ODDS = ODD_VALUES + tuple(odd for odd in ODD_FRACTIONS if not (type(odd) is tuple and odd == (ONE, ONE))) + (
    nested(13), Prickly(), (Prickly(),) * 2, ((ONE, Prickly()), (ONE, ONE)))


class Told(unittest.TestCase):
    """All that the package makes: accepted, about what was passed, and the claim that is so."""

    @classmethod
    def setUpClass(cls):
        cls.made = [(function, given, function(*given)) for function, given in tasks()]

    def test_accepted(self):
        for function, given, made in self.made:
            self.assertEqual((type(made), len(made)), (tuple, 2))
            claim, paper = made
            self.assertIs(accepts(claim, paper), True, (function.__name__, claim))
            self.assertIs(accepts(paper=paper, claim=claim), True)
            # The parts are what was passed, itself.
            self.assertIs(type(claim[0]), str)
            self.assertIn(len(claim) - 1 - len(given), (0, 1))
            self.assertTrue(all(part is told for part, told in zip(claim[1:], given)))
            names = function.__code__.co_varnames[:len(given)]
            self.assertEqual(function(**dict(zip(names, given))), made)

    def test_every_kind_is_there(self):
        self.assertEqual({made[0][0] for _, _, made in self.made}, set(NAMES))
        self.assertEqual(set(CHECKS), set(NAMES))

    def test_the_one_that_is_so(self):
        so = {
            certificates.certify_dying: lambda parting: "dies" if does_die(parting) else "stays",
            certificates.certify_error: lambda parting, error: (
                "dies from" if does_die_from(parting, error) else "stays from"),
            certificates.certify_positive: lambda table: "positive" if is_positive(table) else "not positive",
            certificates.certify_quicker: lambda one, other: (
                "quicker" if rate_word(one, other) == "quicker" else "no quicker"),
            certificates.certify_late: lambda parting: "dies late" if boxing_amounts(parting) else "grows late",
            certificates.certify_inverse: lambda table: (
                "inverse positive" if is_inverse_positive(table) else "not inverse positive"),
            certificates.certify_bounds: lambda pair: (
                "all inverse positive" if are_inverses_positive(pair) else "not all inverse positive"),
            certificates.certify_end: lambda *_: "ends after", certificates.certify_fall: lambda *_: "falls",
            certificates.certify_standing: lambda *given: "never stands" if never_stands(*given) else "may stand",
            certificates.certify_meeting: lambda fence: (
                "walls part" if nearest_point(fence, (NIL,) * len(fence[0][0])) is None else "walls meet"),
        }
        for function, given, (claim, _) in self.made:
            self.assertEqual(claim[0], so[function](*given))
            if function is certificates.certify_end:
                self.assertEqual(claim[4], len(conjugate_run(*given)) - 1)
            if function is certificates.certify_fall:
                self.assertEqual(claim[4], falling_row(*given))

    def test_never_both(self):
        """The claim that is excluded has no paper: neither any of those that were made nor any other one here."""
        papers = [paper for _, _, (_, paper) in self.made]
        papers += [(), PAIR, one_table(1), (ONE,), (ONE, ONE), (NIL,), (NIL, NIL), (ONE, LESS), one_table(3)]
        papers = list({paper: True for paper in papers})
        for _, _, (claim, _) in self.made:
            if claim[0] in EXCLUDED:
                other = (EXCLUDED[claim[0]],) + claim[1:]
                for paper in papers:
                    self.assertIs(accepts(other, paper), False, (other, paper))

    def test_counts_and_squares(self):
        for _, _, (claim, _) in self.made:
            if claim[0] == "ends after":
                for count in (claim[4] + 1, claim[4] - 1, -claim[4] - 1, 6, 10 ** 399, bool(claim[4]), str(claim[4]),
                              (claim[4], 1), None):
                    self.assertIs(accepts(claim[:4] + (count,), ()), False)
            if claim[0] == "falls":
                squares = claim[4]
                for odd in (squares[:-1], squares + (NIL,), squares[1:], list(squares), squares[::-1] + (ONE,), (),
                            squares[:-1] + (TINY,), (TINY,) + squares, squares[:-1] + (0,),
                            squares[:-1] + (Prickly(),)):
                    self.assertIs(accepts(claim[:4] + (odd,), ()), False)

    def test_with_another_paper(self):
        for _, _, (claim, paper) in self.made:
            if paper == ():
                for odd in ODDS + (claim, (ONE,) * len(claim[1]), PAIR, [], ((),)):
                    if not (type(odd) is tuple and len(odd) == 0):
                        self.assertIs(accepts(claim, odd), False)
            else:
                for odd in ODDS:
                    self.assertIs(accepts(claim, odd), False)
                for odd in (list(paper), paper[1:], paper + paper[:1], paper[:-1] + ((2, 4),), paper[:-1] + (None,),
                            paper[:-1] + (Prickly(),), (paper,), paper[:-1] + (True,), (claim, paper)):
                    self.assertIs(accepts(claim, odd), False, (claim, odd))

    def test_bent_claims(self):
        for _, _, (claim, paper) in self.made:
            name, parts = claim[0], claim[1:]
            for odd in (parts, claim[:-1], claim + claim[-1:], claim[:1], list(claim), (name.title(),) + parts,
                        (name.encode(),) + parts, (name + " ",) + parts, parts + claim[:1], (claim,), (claim, paper),
                        claim + ((),), claim + (None,)):
                self.assertIs(accepts(odd, paper), False, odd)

    def test_odd_parts(self):
        for at, (_, _, (claim, paper)) in enumerate(self.made):
            for k in range(len(claim)):
                for odd in ODDS[at % 5::5] + (Prickly(), (claim[k],), [claim[k]], (claim[k], claim[k])):
                    if type(odd) is int and type(claim[k]) is int and odd == claim[k]:
                        continue
                    wrong = claim[:k] + (odd,) + claim[k + 1:]
                    self.assertIs(accepts(wrong, paper), False, k)
                    self.assertIs(accepts(wrong, ()), False)

    def test_other_names(self):
        """A claim of another kind with the same parts is refused, or it is so as well."""
        both = 0
        for _, _, (claim, paper) in self.made:
            for name in NAMES:
                if name != claim[0] and accepts((name,) + claim[1:], paper):
                    self.assertNotEqual(name, EXCLUDED.get(claim[0]))
                    self.assertIs(self.is_so(name, claim[1:]), True, (name, claim))
                    both += 1
        self.assertGreater(both, 10)

    def is_so(self, name, parts):
        """For the kinds that have the same parts: a parting, or a table."""
        return {
            "dies": lambda: does_die(*parts), "stays": lambda: not does_die(*parts),
            "dies late": lambda: boxing_amounts(*parts) is not None,
            "grows late": lambda: boxing_amounts(*parts) is None,
            "positive": lambda: is_positive(*parts), "not positive": lambda: not is_positive(*parts),
            "inverse positive": lambda: is_inverse_positive(*parts),
            "not inverse positive": lambda: not is_inverse_positive(*parts),
            "all inverse positive": lambda: are_inverses_positive(*parts),
            "not all inverse positive": lambda: not are_inverses_positive(*parts),
        }[name]()


class AnyValues(unittest.TestCase):
    def test_claims_and_papers(self):
        for odd in ODDS:
            for paper in ODDS[::3] + ((), PAIR, (ONE, ONE)):
                self.assertIs(accepts(odd, paper), False)
                self.assertIs(accepts((odd,), paper), False)
                self.assertIs(accepts((odd, PAIR), paper), False)
        for name in NAMES:
            for odd in ODDS:
                for parts in ((), (odd,), (odd, odd), (odd,) * 3, (odd,) * 4, (odd,) * 5):
                    for paper in (odd, (), (odd,), (ONE,)):
                        self.assertIs(accepts((name,) + parts, paper), False, (name, len(parts)))

    def test_deep_values(self):
        for name in NAMES + ["", "other", "dies  ", "DIES"]:
            for deep in (nested(13), nested(12), [nested(12)], {"a": nested(11)}):
                self.assertIs(accepts((name, deep), deep), False)
                self.assertIs(accepts(deep, (name, deep)), False)

    def test_names(self):
        for name in ("", "die", "dies ", "Dies", "stays  from", "walls", "not", "accepts", "\u00e9", "\ud800"):
            self.assertIs(accepts((name, DYING), stein_table(DYING)), False)
        self.assertIs(accepts((b"dies", DYING), stein_table(DYING)), False)
        self.assertIs(accepts((("dies",), DYING), stein_table(DYING)), False)


class Dying(unittest.TestCase):
    def test_tables_that_serve(self):
        for parting in partings():
            size = len(parting[0])
            for table in symmetric_tables() + [LEAN, stein_table(parting)]:
                told = table is not None and len(table) == size and does_serve(table, parting)
                self.assertIs(accepts(("dies", parting), table), told)
                if told:
                    self.assertIs(does_die(parting), True)
        # One that serves does not have to be that of Stein.
        self.assertIs(accepts(("dies", DYING), (((7, 1),),)), True)
        self.assertIs(accepts(("dies", DYING), ((NIL,),)), False)
        self.assertIs(accepts(("dies", GROWING), (((-1, 1),),)), False)

    def test_errors_that_stay(self):
        for parting in partings():
            size = len(parting[0])
            mixed = tuple((1 + at, 7) for at in range(size - 1)) + (ONE,)
            for row in one_table(size) + ((NIL,) * size, (ONE,) * size, mixed):
                does = does_die_from(parting, row)
                self.assertIs(accepts(("stays", parting), row), not does)
                self.assertIs(accepts(("dies from", parting, row), ()), does)
                self.assertIs(accepts(("stays from", parting, row), ()), not does)
            self.assertIs(accepts(("stays", parting), (ONE,) * (size + 1)), False)
            self.assertIs(accepts(("stays from", parting, (ONE,) * (size + 1)), ()), False)

    def test_quicker(self):
        for one in partings():
            for other in partings()[::3]:
                word = rate_word(one, other)
                self.assertIs(accepts(("quicker", one, other), ()), word == "quicker")
                self.assertIs(accepts(("no quicker", one, other), ()), word != "quicker")
        self.assertIs(accepts(("no quicker", DYING, DYING), ()), True)
        self.assertIs(accepts(("quicker", DYING, DYING), ()), False)

    def test_late(self):
        half = parting_for(turning(HALF, HALF - Fraction(1, 10 ** 30)))
        for amounts, told in (((ONE, ONE), True), ((TWO, TWO), True), ((ONE, NIL), False), ((NIL, NIL), False),
                              ((LESS, LESS), False), ((ONE, TWO), False), ((ONE,), False), ([ONE, ONE], False)):
            self.assertIs(accepts(("dies late", half), amounts), told)
            self.assertIs(accepts(("grows late", half), amounts), False)
        # A box factor of 1 is not enough for the one, and enough for the other.
        edge = parting_for(turning(0, 1))
        for row, told in (((ONE, ONE), True), ((ONE, TWO), False), ((NIL, NIL), False), ((NIL, ONE), False),
                          ((LESS, LESS), False), ((ONE, LESS), False)):
            self.assertIs(accepts(("dies late", edge), row), False)
            self.assertIs(accepts(("grows late", edge), row), told)
        lone = parting_for([[Fraction(-3), Fraction(0)], [Fraction(0), HALF]])
        for row, told in (((ONE, NIL), True), ((ONE, TINY), False), ((NIL, ONE), False), ((NIL, NIL), False)):
            self.assertIs(accepts(("grows late", lone), row), told)


class TablesAndBounds(unittest.TestCase):
    def test_positive(self):
        for table in symmetric_tables() + [LEAN, FOES]:
            told = table != LEAN and is_positive(table)
            self.assertIs(accepts(("positive", table), ()), told)
            size = len(table)
            for row in list(one_table(size)) + [(NIL,) * size, (ONE,) * size, (ONE,) + (LESS,) * (size - 1)]:
                parts = [number(part) for part in row]
                worth = sum(number(table[at][k]) * parts[at] * parts[k] for at in range(size) for k in range(size))
                wanted = table != LEAN and any(parts) and worth <= 0
                self.assertIs(accepts(("not positive", table), row), wanted)
        # The form of what is not symmetric is not asked for.
        self.assertIs(accepts(("not positive", table_of([[-1, 1], [0, -1]])), (ONE, ONE)), False)
        # Just 0 will do, hardly above it will not.
        self.assertIs(accepts(("not positive", FLAT), (ONE, LESS)), True)
        self.assertIs(accepts(("not positive", FLAT), (ONE, (1 - 10 ** 300, 10 ** 300))), False)

    def test_inverse_positive(self):
        for amounts, told in (((ONE, ONE), True), ((ONE, TWO), False), (((3, 1), TWO), True), ((NIL, NIL), False),
                              ((ONE, NIL), False), ((LESS, LESS), False), ((TWO, ONE), False)):
            self.assertIs(accepts(("inverse positive", PAIR), amounts), told)
        for contents, told in (((ONE, ONE), True), ((ONE, TWO), True), ((NIL, NIL), False), ((ONE, NIL), False),
                               ((LESS, LESS), False), (((1, 3), ONE), False)):
            self.assertIs(accepts(("not inverse positive", FOES), contents), told)
        # w A is asked for, not A w.
        slant = table_of([[1, -3], [0, 0]])
        self.assertIs(accepts(("not inverse positive", slant), (NIL, ONE)), True)
        self.assertIs(accepts(("not inverse positive", slant), (ONE, NIL)), False)
        self.assertIs(accepts(("not inverse positive", slant), (ONE, ONE)), False)

    def test_tables_that_are_not_below(self):
        # All would be right but for the table.
        self.assertIs(accepts(("inverse positive", LEAN), (ONE, ONE)), False)
        self.assertIs(accepts(("inverse positive", TURN), (ONE, ONE)), False)
        self.assertIs(accepts(("not inverse positive", table_of([[-5, 1], [1, -5]])), (ONE, ONE)), False)

    def test_bounds(self):
        tables = [PAIR, FOES, LEAN, TURN, FLAT, CROSS, one_table(2), one_table(3), ((LESS,),), ((NIL,),), ((ONE,),),
                  table_of([[0, 0], [0, 0]]), table_of([[3, 1], [1, 3]]), table_of([[2, HALF], [-1, 2]])]
        for pair in bounds():
            told = are_inverses_positive(pair)
            self.assertIs(accepts(("all inverse positive", pair), ()), told)
            for table in tables:
                low, high = pair
                wanted = len(table) == len(low) and not is_inverse_positive(table) and all(
                    number(one) <= number(part) <= number(other)
                    for row, line, above in zip(table, low, high) for part, one, other in zip(row, line, above))
                self.assertIs(accepts(("not all inverse positive", pair), table), wanted)
                self.assertFalse(told and wanted)
        # Not only the bounds themselves will do.
        inner = table_of([[Fraction(5, 2), HALF], [HALF, Fraction(5, 2)]])
        self.assertIs(accepts(("not all inverse positive", (PAIR, table_of([[3, 1], [1, 3]]))), inner), True)
        self.assertIs(accepts(("all inverse positive", (PAIR, FOES)), ()), False)


class Steps(unittest.TestCase):
    def test_ends_after(self):
        for count in range(-1, 4):
            self.assertIs(accepts(("ends after", PAIR, (ONE, NIL), NONE, count), ()), count == 2)
            self.assertIs(accepts(("ends after", PAIR, (ONE, ONE), NONE, count), ()), count == 1)
            self.assertIs(accepts(("ends after", PAIR, (ONE, ONE), (ONE, ONE), count), ()), count == 0)
            for table in (CROSS, LEAN, FLAT, TURN):
                self.assertIs(accepts(("ends after", table, (ONE, ONE), NONE, count), ()), False)
        for count in (True, (1, 1), "1", None):
            self.assertIs(accepts(("ends after", PAIR, (ONE, ONE), NONE, count), ()), False)
        self.assertIs(accepts(("ends after", PAIR, (ONE, ONE), (ONE, ONE), False), ()), False)

    def test_falls(self):
        told = ("falls", PAIR, (ONE, NIL), (ONE, ONE))
        for squares, does in (((ONE, (1, 5), NIL), True), ((ONE, (1, 4), NIL), False), ((ONE, NIL), False),
                              (NONE, False), ((ONE, (1, 5), NIL, NIL), False), ((ONE, (2, 10), NIL), False),
                              ([ONE, (1, 5), NIL], False)):
            self.assertIs(accepts(told + (squares,), ()), does)
        self.assertIs(accepts(("falls", PAIR, NONE, (ONE, ONE), (NIL,)), ()), True)
        self.assertIs(accepts(("falls", PAIR, NONE, (ONE, ONE), NONE), ()), False)
        self.assertIs(accepts(("falls", FLAT, NONE, (ONE, ONE), (NIL,)), ()), False)
        self.assertIs(accepts(("falls", PAIR, NONE, (ONE, NIL), (NIL,)), ()), False)

    def test_standing(self):
        even = (ONE, ONE)
        low, high, none = (ONE, LESS), (ONE, ONE), (NIL, NIL)
        for paper, told in (((low, high), True), ((low, low), True), ((high, low), False), ((low, none), False),
                            ((none, high), False), ((low,), False), ((low, high, high), False), ([low, high], False),
                            ((low, (ONE,)), False), ((low, [ONE, ONE]), False), ((), False)):
            # x x + 2 x y + y y is 0 at (1, -1), above 0 elsewhere.
            self.assertIs(accepts(("may stand", LEAN, even), paper), told)
            self.assertIs(accepts(("may stand", table_of([[2, 1], [1, 2]]), even), paper), False)
        self.assertIs(accepts(("may stand", TURN, even), ((ONE, NIL), (NIL, ONE))), True)
        self.assertIs(accepts(("may stand", FLAT, even), (low, high)), False)
        self.assertIs(accepts(("may stand", LEAN, (ONE, TWO)), (low, high)), False)
        for table in regular_tables():
            amounts = (ONE,) * len(table)
            self.assertIs(accepts(("never stands", table, amounts), ()), never_stands(table, amounts))
        self.assertIs(accepts(("never stands", FLAT, even), ()), False)
        self.assertIs(accepts(("never stands", PAIR, (ONE, NIL)), ()), False)

    def test_walls(self):
        for fence in fences():
            size, met = len(fence[0][0]), nearest_point(fence, (ONE,) * len(fence[0][0]))
            for point in ((NIL,) * size, (ONE,) * size, met):
                told = met is not None and point is not None and all(
                    sum(number(one) * number(other) for one, other in zip(row, point)) == number(right)
                    for row, right in fence)
                self.assertIs(accepts(("walls meet", fence), point), told)
            if met is not None:
                beside = (pair_of(number(met[0]) + Fraction(1, 10 ** 300)),) + met[1:]
                rows = [row for row, _ in fence]
                self.assertIs(accepts(("walls meet", fence), beside), all(row[0] == NIL for row in rows))
                self.assertIs(accepts(("walls meet", fence), met + (NIL,)), False)
        side, far, slope = ((ONE, NIL), NIL), ((TWO, NIL), ONE), ((ONE, ONE), NIL)
        for paper, told in (((TWO, LESS, NIL), True), (((4, 1), (-2, 1), NIL), True), ((TWO, LESS, ONE), False),
                            ((NIL,) * 3, False), ((TWO, LESS), False), ((LESS, TWO, NIL), False)):
            self.assertIs(accepts(("walls part", (side, far, slope)), paper), told)
        # Rows that add up to noughts with right numbers that add up to 0 part nothing.
        self.assertIs(accepts(("walls part", (side, side, far)), (ONE, LESS, NIL)), False)
        self.assertIs(accepts(("walls part", (side, side, far)), (ONE, ONE, LESS)), True)
        self.assertIs(accepts(("walls part", (side, side)), (ONE, LESS)), False)


class BigNumbers(unittest.TestCase):
    def test_what_is_told_may_be_passed_on(self):
        big = 10 ** 399
        table = table_of([[big, Fraction(-1, big)], [Fraction(-1, big), Fraction(big, big + 1)]])
        parting = (table, ((table[0][0], NIL), (NIL, table[1][1])))
        amounts, row = ((big, 7), (3, big)), ((1, big), (-big, 3))
        fence = ((row, (big, 1)), (amounts, (1, big)), (row, (1, big)))
        for function, given in (
                (certificates.certify_dying, (parting,)), (certificates.certify_error, (parting, row)),
                (certificates.certify_positive, (table,)), (certificates.certify_quicker, (parting, DYING)),
                (certificates.certify_late, (parting,)), (certificates.certify_inverse, (table,)),
                (certificates.certify_bounds, ((table, table),)), (certificates.certify_end, (table, row, amounts)),
                (certificates.certify_fall, (table, row, amounts)), (certificates.certify_standing, (table, amounts)),
                (certificates.certify_meeting, (fence,)), (certificates.certify_meeting, (fence[:2],))):
            claim, paper = function(*given)
            self.assertIs(accepts(claim, paper), True)
            if claim[0] in EXCLUDED:
                self.assertIs(accepts((EXCLUDED[claim[0]],) + claim[1:], paper), False)
        claim, point = certificates.certify_meeting(fence[:2])
        self.assertEqual(row_of([number(part) for part in point]), point)
        # A point that was told is met by walls through it, whatever the size of its numbers.
        through = tuple((row, point[at]) for at, row in enumerate(one_table(2)))
        self.assertEqual(certificates.certify_meeting(through), (("walls meet", through), point))


if __name__ == "__main__":
    unittest.main()
