"""How fast errors die: the size of an error table, told near, against an amount, and against that of another one."""
from sweepends.checks import require_amount, require_many
from sweepends.errors import InvalidParting
from sweepends.exact import whole_row
from sweepends.partings import error_polynomial, is_parting, require_parting
from sweepends.polynomials import is_within, lowered_terms, scaled
from sweepends.roots import floor_root, is_root_upto, root_order


def size_square_near(parting, many):
    """The square of the size of the error table, near."""
    require_parting(parting)
    require_many(many)
    numbers = scaled(square_polynomial(parting), many, 1)
    near = floor_root(numbers)
    return near, is_root_upto(numbers, near)


def is_size_below(parting, fraction):
    """Whether the size of the error table is below an amount."""
    require_parting(parting)
    require_amount(fraction)
    number, divisor = fraction
    return is_within(scaled(whole_row(error_polynomial(parting))[0], divisor, number))


def rate_word(parting, other):
    """How fast the first parting is beside the other one: quicker, same or slower."""
    require_parting(parting)
    if not is_parting(other):
        raise InvalidParting(other)
    order = size_order(parting, other)
    if order == 0:
        return "same"
    return "quicker" if order < 0 else "slower"


def size_order(parting, other):
    """-1, 0 or 1 as the size of the first parting is below, at or above that of the other one."""
    return root_order(square_polynomial(parting), square_polynomial(other))


def square_polynomial(parting):
    """A polynomial with the roots r * s for all pairs of roots r, s of the error table and for each with itself.

    Its greatest real root is the square of the size, and no other one has a greater size.
    """
    whole, divisor = whole_row(error_polynomial(parting))
    # Times the divisor the roots are those of whole numbers with the lead 1, so all sums of powers are whole, too.
    numbers = [number // divisor for number in scaled(whole, divisor, 1)][::-1]
    size = len(numbers) - 1
    count = size * (size + 1) // 2
    sums = power_sums(numbers, 2 * count)
    pairs = [(sums[k] * sums[k] + sums[2 * k]) // 2 for k in range(count + 1)]
    return lowered_terms(scaled(numbers_of(pairs)[::-1], 1, divisor * divisor))


def power_sums(numbers, most):
    """The sums of the powers of all roots, from power 0 up to the most (Newton); the lead, 1, comes first here."""
    size = len(numbers) - 1
    sums = [size]
    for power in range(1, most + 1):
        found = power * numbers[power] if power <= size else 0
        for at in range(1, min(power, size + 1)):
            found += numbers[at] * sums[power - at]
        sums.append(-found)
    return sums


def numbers_of(sums):
    """The polynomial, its lead 1 first, with such sums of the powers of all roots up to their number (Newton)."""
    numbers = [1]
    for power in range(1, len(sums)):
        found = sum([number * sums[power - at] for at, number in enumerate(numbers)])
        numbers.append(-found // power)
    return numbers
