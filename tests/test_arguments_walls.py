"""Wrong arguments of the functions on least residuals, walls and certificates."""
import unittest

from arguments import FENCE, FLAT, LEAN, NOUGHTS, PAIR, PARTING, ROW, SIDE, TURN, Refusals
from helpers import LESS, NIL, ONE, TWO, table_of
from sweepends import certificates, checker, errors, residuals, walls

CROSS = table_of([[1, 2], [2, 1]])
TABLE, RIGHT, GUESS = ("table", "table", PAIR), ("right", "row", ROW), ("guess", "row", ROW)
AMOUNTS = ("amounts", "amounts", ROW)
PARTED, WITHIN, WALLS = ("parting", "parting", PARTING), ("bounds", "bounds", (PAIR, PAIR)), ("walls", "walls", FENCE)
OTHER = ("other", "parting", PARTING)
ORDER, SHARE, MANY = ("order", "order", (0, 1)), ("share", "share", (1, 2)), ("many", "many", 7)
FUNCTIONS = [
    (residuals.least_run, [TABLE, RIGHT, AMOUNTS]), (residuals.falling_row, [TABLE, RIGHT, AMOUNTS]),
    (residuals.standing_steps, [TABLE, RIGHT, AMOUNTS]), (residuals.never_stands, [TABLE, AMOUNTS]),
    (residuals.standing_rows, [TABLE, AMOUNTS]),
    (residuals.stays_for_ever, [TABLE, RIGHT, AMOUNTS, ("count", "begun", 1)]),
    (residuals.table_for, [("squares", "squares", (TWO, ONE, NIL)), ("polynomial", "polynomial", (LESS, NIL, ONE))]),
    (walls.wall_step, [WALLS, ("index", "place", 1), SHARE, GUESS]), (walls.round_of, [WALLS, ORDER, SHARE, GUESS]),
    (walls.nearest_point, [WALLS, GUESS]), (walls.parting_weights, [WALLS]),
    (walls.ring_of, [WALLS, ORDER, SHARE, GUESS]), (walls.rounds_needed, [WALLS, ORDER, SHARE]),
    (walls.does_shrink, [WALLS, ORDER, SHARE, ("fraction", "amount", (1, 3))]),
    (walls.shrinking_near, [WALLS, ORDER, SHARE, MANY]),
    (certificates.certify_dying, [PARTED]), (certificates.certify_error, [PARTED, ("error", "row", ROW)]),
    (certificates.certify_positive, [TABLE]), (certificates.certify_quicker, [PARTED, OTHER]),
    (certificates.certify_late, [PARTED]), (certificates.certify_inverse, [TABLE]),
    (certificates.certify_bounds, [WITHIN]), (certificates.certify_end, [TABLE, RIGHT, GUESS]),
    (certificates.certify_fall, [TABLE, RIGHT, AMOUNTS]), (certificates.certify_standing, [TABLE, AMOUNTS]),
    (certificates.certify_meeting, [WALLS]),
]
INTERFACE = [
    (residuals, "least_run falling_row standing_steps never_stands standing_rows stays_for_ever table_for"),
    (walls, "is_fence wall_step round_of nearest_point parting_weights ring_of rounds_needed does_shrink"
            " shrinking_near"),
    (checker, "accepts"),
    (certificates, "certify_dying certify_error certify_positive certify_quicker certify_late certify_inverse"
                   " certify_bounds certify_end certify_fall certify_standing certify_meeting"),
]
LAST = []
for flat in (FLAT, NOUGHTS):
    SYSTEM = {"table": flat, "right": ROW, "amounts": ROW}
    LAST += [(function, SYSTEM, errors.NoInverse) for function in (
        residuals.least_run, residuals.falling_row, residuals.standing_steps, certificates.certify_fall)]
    LAST += [(residuals.least_run, {**SYSTEM, "right": (NIL, NIL)}, errors.NoInverse),
             (residuals.stays_for_ever, {**SYSTEM, "count": 2}, errors.NoInverse),
             (residuals.stays_for_ever, {**SYSTEM, "right": (NIL, NIL), "count": 5}, errors.NoInverse)]
    LAST += [(function, {"table": flat, "amounts": ROW}, errors.NoInverse) for function in (
        residuals.never_stands, residuals.standing_rows, certificates.certify_standing)]
START = {"right": ROW, "guess": (NIL, NIL)}
LAST += [
    (certificates.certify_positive, {"table": LEAN}, errors.NotSymmetric),
    (certificates.certify_inverse, {"table": LEAN}, errors.NotBelow),
    (certificates.certify_inverse, {"table": TURN}, errors.NotBelow),
    (certificates.certify_end, {"table": LEAN, **START}, errors.NotSymmetric),
    (certificates.certify_end, {"table": table_of([[-1, 1], [0, -1]]), **START}, errors.NotSymmetric),
    (certificates.certify_end, {"table": CROSS, **START}, errors.NotPositive),
    (certificates.certify_end, {"table": FLAT, **START}, errors.NotPositive),
]


class WrongArguments(Refusals, unittest.TestCase):
    functions, interface, last, asked = FUNCTIONS, INTERFACE, LAST, (walls.is_fence,)

    def test_names_of_the_checker(self):
        code = checker.accepts.__code__
        self.assertEqual(code.co_varnames[:code.co_argcount], ("claim", "paper"))
        self.assertIs(checker.accepts(paper=(), claim=("positive", PAIR)), True)

    def test_walls_of_each_number(self):
        for size in (1, 2, 3, 4, 5):
            side = ((ONE,) * size, TWO)
            for count in range(1, 7):
                fence, row = (side,) * count, (ONE,) * size
                self.assertIs(walls.is_fence(fence), True)
                right = {"walls": fence, "index": count - 1, "share": ONE, "guess": row}
                walls.wall_step(**right)
                for odd in (count, -1, count + 1, True, None, ONE):
                    self.refused(walls.wall_step, {**right, "index": odd}, errors.InvalidIndex, {"given": odd})
                for at in range(size):
                    odd = row[:at] + ((2, 4),) + row[at + 1:]
                    self.refused(walls.wall_step, {**right, "guess": odd}, errors.InvalidRow, {"index": at})
                    self.refused(walls.nearest_point, {"walls": fence, "guess": odd}, errors.InvalidRow, {"index": at})
                for odd in (row[1:], row + (ONE,), list(row)):
                    self.refused(walls.wall_step, {**right, "guess": odd}, errors.InvalidRow, {"index": None})
                order = tuple(range(count)) + (count,)
                self.refused(walls.rounds_needed, {"walls": fence, "order": order, "share": ONE}, errors.InvalidOrder,
                             {"index": count})
                for other in range(1, 6):
                    odd = fence + (((ONE,) * other, ONE),)
                    self.assertIs(walls.is_fence(odd), size == other and count < 6)
                    if size != other:
                        self.refused(walls.parting_weights, {"walls": odd}, errors.InvalidWalls, {"index": count})

    def test_ends_of_what_may_be_passed(self):
        for share in ((1, 10 ** 399), (2 * 10 ** 399 - 1, 10 ** 399), (3, 2)):
            self.assertEqual(walls.wall_step((SIDE,), 0, share, (TWO, ONE)), (TWO, ONE))
        self.assertEqual(len(walls.round_of(FENCE, (0, 1) * 12, ONE, ROW)), 24)
        self.assertEqual(len(walls.ring_of((SIDE,) * 6, (5,), ONE, ROW)), 1)
        self.assertEqual(walls.shrinking_near((SIDE,), (0,), ONE, 1), (0, True))
        self.assertEqual(walls.shrinking_near((SIDE,), (0,), (1, 2), 10 ** 6), (250000, True))
        self.assertIs(walls.does_shrink((SIDE,), (0,), (1, 2), (10 ** 399, 1)), True)
        self.assertIs(walls.does_shrink((SIDE,), (0,), (1, 2), (1, 10 ** 399)), False)
        for count in range(1, 6):
            self.assertIs(residuals.stays_for_ever(PAIR, ROW, ROW, count), False)

    def test_squares_come_before_the_polynomial(self):
        for squares, index in (((ONE, TWO, NIL), 1), ((ONE,), None)):
            self.refused(residuals.table_for, {"squares": squares, "polynomial": None}, errors.InvalidRow,
                         {"index": index})
        for count in range(2, 7):
            squares = (ONE,) * (count - 1) + (NIL,)
            for many in range(0, 8):
                polynomial = (TWO,) * many + (ONE,)
                if many == count - 1:
                    self.assertEqual(len(residuals.table_for(squares, polynomial)), 3)
                else:
                    self.refused(residuals.table_for, {"squares": squares, "polynomial": polynomial},
                                 errors.InvalidPolynomial, {"given": polynomial})


if __name__ == "__main__":
    unittest.main()
