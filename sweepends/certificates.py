"""Claims that are so, each with a paper that the checker accepts."""
from sweepends.bounds import failing_table
from sweepends.conjugate import steps_to_end
from sweepends.dying import does_die_from, staying_error, stein_table
from sweepends.exact import NIL
from sweepends.inverses import lifting_amounts, sinking_contents
from sweepends.late import boxing_amounts, growing_contents
from sweepends.rates import rate_word
from sweepends.residuals import falling_row, standing_rows
from sweepends.tables import low_row
from sweepends.walls import nearest_common, parting_weights


def certify_dying(parting):
    """Whether the errors die: with a table that serves the parting, or an error from which they do not."""
    error = staying_error(parting)
    if error is None:
        return ("dies", parting), stein_table(parting)
    return ("stays", parting), error


def certify_error(parting, error):
    """Whether the errors from this one die."""
    return ("dies from" if does_die_from(parting, error) else "stays from", parting, error), ()


def certify_positive(table):
    """Whether the symmetric table is positive: if not, with a row at which the form is not above 0."""
    row = low_row(table)
    if row is None:
        return ("positive", table), ()
    return ("not positive", table), row


def certify_quicker(parting, other):
    """Whether the first parting is quicker than the other one."""
    return ("quicker" if rate_word(parting, other) == "quicker" else "no quicker", parting, other), ()


def certify_late(parting):
    """Whether the errors die in all late runs: with boxing amounts, or growing contents."""
    amounts = boxing_amounts(parting)
    if amounts is None:
        return ("grows late", parting), growing_contents(parting)
    return ("dies late", parting), amounts


def certify_inverse(table):
    """Whether the table, which is below, is inverse positive: with lifting amounts, or sinking contents."""
    amounts = lifting_amounts(table)
    if amounts is None:
        return ("not inverse positive", table), sinking_contents(table)
    return ("inverse positive", table), amounts


def certify_bounds(bounds):
    """Whether all tables within the bounds are inverse positive: if not, with one that is not."""
    table = failing_table(bounds)
    if table is None:
        return ("all inverse positive", bounds), ()
    return ("not all inverse positive", bounds), table


def certify_end(table, right, guess):
    """After how many conjugate steps the solution is reached."""
    return ("ends after", table, right, guess, steps_to_end(table, right, guess)), ()


def certify_fall(table, right, amounts):
    """The falling row."""
    return ("falls", table, right, amounts, falling_row(table, right, amounts)), ()


def certify_standing(table, amounts):
    """Whether no step ever stands still: if one may, with rows at which x . W A x is at most 0 and at least 0."""
    rows = standing_rows(table, amounts)
    if rows is None:
        return ("never stands", table, amounts), ()
    return ("may stand", table, amounts), rows


def certify_meeting(walls):
    """Whether the walls have a common point: with one, or with parting weights."""
    weights = parting_weights(walls)
    if weights is None:
        return ("walls meet", walls), nearest_common(walls, (NIL,) * len(walls[0][0]))
    return ("walls part", walls), weights
