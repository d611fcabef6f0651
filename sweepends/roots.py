"""The greatest real root of polynomials of which no other root, real or not, has a greater size than that one."""
from sweepends.polynomials import all_roots_once, are_above, scaled, shifted, size_bits

QUICK_HALVINGS = 48


def is_root_below(numbers, bound):
    """Whether the greatest real root is below a whole number."""
    # Just then all derivatives are above 0 there, as their roots lie among those of the polynomial (Gauss, Lucas).
    return are_above(shifted(numbers, bound))


def is_root_upto(numbers, bound):
    """Whether the greatest real root is a whole number or below it."""
    return all(number >= 0 for number in shifted(numbers, bound))


def floor_root(numbers):
    """The greatest whole number up to the greatest real root, which is not below 0."""
    found = 1 << size_bits(numbers)
    fall = newton_fall(numbers, found)
    while fall > 0:
        found -= fall
        fall = newton_fall(numbers, found)
    # What is left is below the number of roots.
    while is_root_below(numbers, found):
        found -= 1
    return found


def newton_fall(numbers, at):
    """The whole part of a step of Newton's down from a place above the greatest real root, or from a single one itself.

    Such steps never pass the root, nor come to one that is there several times; rounding only shortens them.
    """
    height, slant = 0, 0
    for number in numbers[::-1]:
        slant = slant * at + height
        height = height * at + number
    return height // slant


def root_order(numbers, others):
    """-1, 0 or 1 as the greatest real root of one polynomial is below, at or above that of another; both from 0 on."""
    if numbers == others:
        return 0
    span = 1 << max(size_bits(numbers), size_bits(others))
    lines = [scaled(numbers, 1, span), scaled(others, 1, span)]
    for _ in range(QUICK_HALVINGS):
        lines, order = halved(lines)
        if order != 0:
            return order
    # Dear, so only for roots that stay together: where both are, there is one root at last if they are the same.
    lines.append(all_roots_once(lines[0], lines[1]))
    while most_roots(lines[2]) > 1:
        lines, order = halved(lines)
        if order != 0:
            return order
    return 0


def halved(lines):
    """Polynomials stretched such that 0 to 1 is the half of it in which the greatest roots of the first two were.

    With them 0; or, if these were in different halves, their order.
    """
    lower = [scaled(line, 2, 1) for line in lines]
    upper = [shifted(line, 1) for line in lower]
    is_low, is_other_low = are_above(upper[0]), are_above(upper[1])
    if is_low and is_other_low:
        return lower, 0
    if is_low:
        return lines, -1
    if is_other_low:
        return lines, 1
    return upper, 0


def most_roots(numbers):
    """No fewer than the real roots from 0 on that a polynomial without repeated roots has (Descartes)."""
    signs = [number > 0 for number in numbers if number != 0]
    changes = len([1 for sign, following in zip(signs, signs[1:]) if sign != following])
    return changes + (1 if numbers[0] == 0 else 0)
