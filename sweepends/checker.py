"""The checker: accepts a claim with its paper only if the claim is so, whatever both are."""
from sweepends.bounds import failing_bound, is_bounds, is_nowhere_above
from sweepends.dying import is_dying_from, is_serving
from sweepends.exact import NIL, ONE, are_amounts, are_contents, are_noughts, dot, is_above, is_row, rows_minus
from sweepends.grids import grid_determinant, grid_form, image, least_of, turned_grid
from sweepends.inverses import is_turned_positive
from sweepends.late import factor_of
from sweepends.lifts import is_below, sizes_of
from sweepends.partings import errors_of, is_parting
from sweepends.rates import size_order
from sweepends.residuals import is_never_standing, leaning_table, squares_of_residuals
from sweepends.spans import combined
from sweepends.tables import failing_count, is_table
from sweepends.walls import is_common, is_fence


def is_bare(paper):
    """Whether a paper, whatever it is, is ()."""
    return type(paper) is tuple and len(paper) == 0


def is_other_row(size, paper):
    """Whether a paper, whatever it is, is a row of so many fractions other than noughts."""
    return is_row(size, paper) and not are_noughts(paper)


def are_none_above(row):
    """Whether no number of a row is above 0."""
    return all(number <= 0 for number, _ in row)


def is_one_parting(parts):
    return len(parts) == 1 and is_parting(parts[0])


def accepts_dying(parts, paper):
    if not is_one_parting(parts) or not is_table(paper) or len(paper) != len(parts[0][0]):
        return False
    return is_serving(paper, parts[0])


def accepts_staying(parts, paper):
    if not is_one_parting(parts) or not is_row(len(parts[0][0]), paper):
        return False
    return not is_dying_from(errors_of(parts[0]), paper)


def is_parting_with_error(parts):
    return len(parts) == 2 and is_parting(parts[0]) and is_row(len(parts[0][0]), parts[1])


def accepts_dying_from(parts, paper):
    return is_bare(paper) and is_parting_with_error(parts) and is_dying_from(errors_of(parts[0]), parts[1])


def accepts_staying_from(parts, paper):
    return is_bare(paper) and is_parting_with_error(parts) and not is_dying_from(errors_of(parts[0]), parts[1])


def is_symmetric_table(value):
    return is_table(value) and turned_grid(value) == value


def accepts_positive(parts, paper):
    return is_bare(paper) and len(parts) == 1 and is_symmetric_table(parts[0]) and failing_count(parts[0]) is None


def accepts_not_positive(parts, paper):
    if len(parts) != 1 or not is_symmetric_table(parts[0]) or not is_other_row(len(parts[0]), paper):
        return False
    return grid_form(parts[0], paper)[0] <= 0


def are_two_partings(parts):
    return len(parts) == 2 and is_parting(parts[0]) and is_parting(parts[1])


def accepts_quicker(parts, paper):
    return is_bare(paper) and are_two_partings(parts) and size_order(parts[0], parts[1]) < 0


def accepts_no_quicker(parts, paper):
    return is_bare(paper) and are_two_partings(parts) and size_order(parts[0], parts[1]) >= 0


def accepts_dying_late(parts, paper):
    if not is_one_parting(parts) or not are_amounts(len(parts[0][0]), paper):
        return False
    return is_above(ONE, factor_of(errors_of(parts[0]), paper))


def accepts_growing_late(parts, paper):
    if not is_one_parting(parts) or not are_contents(len(parts[0][0]), paper):
        return False
    return are_none_above(rows_minus(paper, image(sizes_of(errors_of(parts[0])), paper)))


def is_one_below(parts):
    return len(parts) == 1 and is_table(parts[0]) and is_below(parts[0])


def accepts_inverse_positive(parts, paper):
    if not is_one_below(parts) or not are_amounts(len(parts[0]), paper):
        return False
    return are_amounts(len(parts[0]), image(parts[0], paper))


def accepts_not_inverse_positive(parts, paper):
    if not is_one_below(parts) or not are_contents(len(parts[0]), paper):
        return False
    return are_none_above(image(turned_grid(parts[0]), paper))


def are_one_bounds(parts):
    return len(parts) == 1 and is_bounds(parts[0])


def accepts_all_within(parts, paper):
    return is_bare(paper) and are_one_bounds(parts) and failing_bound(parts[0]) is None


def accepts_not_all_within(parts, paper):
    if not are_one_bounds(parts) or not is_table(paper) or len(paper) != len(parts[0][0]):
        return False
    low, high = parts[0]
    return is_nowhere_above(low, paper) and is_nowhere_above(paper, high) and not is_turned_positive(paper)


def accepts_end(parts, paper):
    if not is_bare(paper) or len(parts) != 4:
        return False
    table, right, guess, count = parts
    if not is_symmetric_table(table) or failing_count(table) is not None:
        return False
    if not is_row(len(table), right) or not is_row(len(table), guess):
        return False
    return type(count) is int and count == len(least_of(table, rows_minus(right, image(table, guess)))) - 1


def is_regular_table(value):
    """Whether a value, whatever it is, is a table with an inverse."""
    return is_table(value) and grid_determinant(value) != NIL


def accepts_falling(parts, paper):
    if not is_bare(paper) or len(parts) != 4:
        return False
    table, right, amounts, squares = parts
    if not is_regular_table(table) or not is_row(len(table), right) or not are_amounts(len(table), amounts):
        return False
    found = squares_of_residuals(table, right, amounts)
    return is_row(len(found), squares) and squares == found


def is_regular_with_amounts(parts):
    return len(parts) == 2 and is_regular_table(parts[0]) and are_amounts(len(parts[0]), parts[1])


def accepts_never_standing(parts, paper):
    return is_bare(paper) and is_regular_with_amounts(parts) and is_never_standing(parts[0], parts[1])


def accepts_standing(parts, paper):
    if not is_regular_with_amounts(parts) or type(paper) is not tuple or len(paper) != 2:
        return False
    size, (low, high) = len(parts[0]), paper
    if not is_other_row(size, low) or not is_other_row(size, high):
        return False
    leaning = leaning_table(parts[0], parts[1])
    return grid_form(leaning, low)[0] <= 0 and grid_form(leaning, high)[0] >= 0


def is_one_fence(parts):
    return len(parts) == 1 and is_fence(parts[0])


def accepts_meeting(parts, paper):
    return is_one_fence(parts) and is_row(len(parts[0][0][0]), paper) and is_common(parts[0], paper)


def accepts_no_meeting(parts, paper):
    if not is_one_fence(parts) or not is_row(len(parts[0]), paper):
        return False
    rows, rights = [row for row, _ in parts[0]], [right for _, right in parts[0]]
    return are_noughts(combined(paper, rows, len(rows[0]))) and dot(paper, rights) != NIL


CHECKS = {
    "dies": accepts_dying, "stays": accepts_staying,
    "dies from": accepts_dying_from, "stays from": accepts_staying_from,
    "positive": accepts_positive, "not positive": accepts_not_positive,
    "quicker": accepts_quicker, "no quicker": accepts_no_quicker,
    "dies late": accepts_dying_late, "grows late": accepts_growing_late,
    "inverse positive": accepts_inverse_positive, "not inverse positive": accepts_not_inverse_positive,
    "all inverse positive": accepts_all_within, "not all inverse positive": accepts_not_all_within,
    "ends after": accepts_end, "falls": accepts_falling,
    "never stands": accepts_never_standing, "may stand": accepts_standing,
    "walls meet": accepts_meeting, "walls part": accepts_no_meeting,
}


def accepts(claim, paper):
    """Whether a claim, whatever it is, is one for the checker, and a paper, whatever it is, is one for it."""
    if type(claim) is not tuple or len(claim) == 0 or type(claim[0]) is not str or claim[0] not in CHECKS:
        return False
    check = CHECKS[claim[0]]
    return check(claim[1:], paper)
