"""Late runs, whose steps may use values that are out of date: whether their errors go to 0 in all of them."""
from sweepends.checks import require_amounts, require_number, require_row
from sweepends.errors import InvalidSteps, NotBelow
from sweepends.exact import NIL, ONE, greatest, minus, over, plus, reduced, rows_minus, whole_row
from sweepends.grids import image, solved_row, whole_grid
from sweepends.lifts import boxing_row, growing_row, sizes_of
from sweepends.partings import errors_of, require_parting
from sweepends.tables import MOST_ROWS

MOST_LATE_STEPS = 200


def is_late(size, value):
    """Whether a value, whatever it is, is late steps for so many unknowns."""
    require_number(size, 1, MOST_ROWS)
    return type(value) is tuple and odd_step(size, value) is None


def odd_step(size, steps):
    """The index of the first element of a tuple that is no late step beside those before it, or one too many; None."""
    counts = [2] * size
    for index, value in enumerate(steps):
        if index == MOST_LATE_STEPS or not is_late_step(counts, value):
            return index
        counts[value[0]] += 1
    return None


def is_late_step(counts, value):
    """Whether a value, whatever it is, is a late step where the unknowns have so many values."""
    if type(value) is not tuple or len(value) != 2:
        return False
    at, picks = value
    if type(at) is not int or at < 0 or at >= len(counts):
        return False
    if type(picks) is not tuple or len(picks) != len(counts):
        return False
    return all(type(pick) is int and 0 <= pick < count for pick, count in zip(picks, counts))


def require_steps(size, value):
    if type(value) is not tuple:
        raise InvalidSteps(None)
    index = odd_step(size, value)
    if index is not None:
        raise InvalidSteps(index)


def is_tidy(size, steps, number):
    """Whether late steps for so many unknowns are tidy with the number."""
    require_number(size, 1, MOST_ROWS)
    require_steps(size, steps)
    require_number(number, 1, MOST_LATE_STEPS)
    return takes_all(size, steps, number) and has_fresh_picks(size, steps, number)


def takes_all(size, steps, number):
    """Whether each unknown is taken anew among any so many steps behind one another."""
    taken = [at for at, _ in steps]
    return all(len(set(taken[first:first + number])) == size for first in range(len(taken) - number + 1))


def has_fresh_picks(size, steps, number):
    """Whether no step picks a value of which the next one came so many steps ago or before."""
    came = [[0, 0] for _ in range(size)]
    for count, (at, picks) in enumerate(steps, start=1):
        for places, pick in zip(came, picks):
            if pick + 1 < len(places) and places[pick + 1] <= count - number:
                return False
        came[at].append(count)
    return True


def late_run(parting, right, older, newer, steps):
    """The row of the last values behind the late steps."""
    require_parting(parting)
    size = len(parting[0])
    require_row(right, size)
    require_row(older, size)
    require_row(newer, size)
    require_steps(size, steps)
    found = solved_row(parting[0], right)
    # The errors go by T alone; in whole numbers they need one reduction at the end, not one for each step.
    rows, share = whole_grid(errors_of(parting))
    numbers, divisor = whole_row(rows_minus(older, found) + rows_minus(newer, found))
    values = [[(first, 0), (second, 0)] for first, second in zip(numbers[:size], numbers[size:])]
    for at, picks in steps:
        picked = [values[k][pick] for k, pick in enumerate(picks)]
        values[at].append(taken_anew(rows[at], share, picked))
    return tuple([plus(part, over_powers(told[-1], divisor, share)) for part, told in zip(found, values)])


def taken_anew(row, share, picked):
    """What a whole row over the share makes of whole numbers, each with the power of the share that it stands over."""
    powers = [power for _, power in picked]
    total, top = 0, max(powers)
    for count in range(min(powers), top + 1):
        total = total * share + sum([part * number for part, (number, power) in zip(row, picked) if power == count])
    return total, top + 1


def over_powers(told, divisor, share):
    """A whole number over the divisor and over the power of the share that is told with it."""
    number, power = told
    for _ in range(power):
        divisor = divisor * share
    return reduced(number, divisor)


def boxing_amounts(parting):
    """Any row v of amounts with |T| v below v in each number; None."""
    require_parting(parting)
    return boxing_row(sizes_of(errors_of(parting)))


def growing_contents(parting):
    """Any row u of contents, not all 0, with |T| u at least u in each number; None."""
    require_parting(parting)
    return growing_row(sizes_of(errors_of(parting)))


def box_factor(parting, amounts):
    """The greatest of the numbers of |T| v over those of v, the amounts."""
    require_parting(parting)
    require_amounts(amounts, len(parting[0]))
    return factor_of(errors_of(parting), amounts)


def factor_of(errors, amounts):
    reached = image(sizes_of(errors), amounts)
    return greatest([over(part, amount) for part, amount in zip(reached, amounts)])


def step_bound(parting, amounts):
    """How many times the greatest number of a step, measured by the amounts, that of what is left is at most."""
    factor = box_factor(parting, amounts)
    rest = minus(ONE, factor)
    if rest[0] <= 0:
        raise NotBelow()
    return over(factor, rest)


def staying_round(parting):
    """Any errors of both guesses and the first steps of a run that never makes any of them less; None."""
    older = growing_contents(parting)
    if older is None:
        return None
    newer = rows_minus((NIL,) * len(older), older)
    steps = []
    for at, row in enumerate(errors_of(parting)):
        # Of each pair of values the first one is above 0, the second one below it; unknowns before have a new pair.
        firsts = [2 if k < at else 0 for k in range(len(row))]
        lags = [0 if part[0] >= 0 else 1 for part in row]
        steps.append((at, tuple([first + lag for first, lag in zip(firsts, lags)])))
        steps.append((at, tuple([first + 1 - lag for first, lag in zip(firsts, lags)])))
    return older, newer, tuple(steps)
