"""Polynomials as lists of whole numbers, that of the lowest power first, without checks of arguments."""
from math import gcd

from sweepends.exact import reduced


def scaled(numbers, up, down):
    """The polynomial with all roots times up / down, both above 0."""
    found, share = [], 1
    for number in numbers[::-1]:
        found.append(number * share)
        share = share * up
    found.reverse()
    share = 1
    for at in range(len(found)):
        found[at] = found[at] * share
        share = share * down
    return found


def shifted(numbers, by):
    """The polynomial with all roots less by a whole number."""
    found = list(numbers)
    top = len(found) - 1
    for start in range(top):
        for at in range(top - 1, start - 1, -1):
            found[at] += by * found[at + 1]
    return found


def multiplied_out(numbers, others):
    """The product of two polynomials."""
    found = [0] * (len(numbers) + len(others) - 1)
    for at, number in enumerate(numbers):
        for k, other in enumerate(others):
            found[at + k] += number * other
    return found


def added(numbers, others):
    """The sum of a polynomial and one of no higher degree."""
    return [number + other for number, other in zip(numbers, others)] + numbers[len(others):]


def with_lead_one(numbers):
    """The fractions of the polynomial over its last number."""
    return tuple([reduced(number, numbers[-1]) for number in numbers])


def lowered_terms(numbers):
    """The polynomial without a common divisor, its last number above 0; [] stays."""
    common = 0
    for number in numbers:
        common = gcd(common, number)
    if numbers and numbers[-1] < 0:
        common = -common
    return [number // common for number in numbers]


def are_above(numbers):
    return all(number > 0 for number in numbers)


def is_within(numbers):
    """Whether all roots, real or not, have a size below 1 (Schur, Cohn)."""
    ahead, before = 1, 1
    while len(numbers) > 1:
        low, lead = numbers[0], numbers[-1]
        if abs(low) >= abs(lead):
            return False
        # The lead two steps ago divides all of these without a rest, which keeps the numbers small.
        numbers = [(lead * number - low * other) // before for number, other in zip(numbers[1:], numbers[-2::-1])]
        before, ahead = ahead, numbers[-1]
    return True


def slope(numbers):
    """The derivative."""
    return [power * number for power, number in enumerate(numbers)][1:]


def remainder(numbers, others):
    """What is left of a multiple of the first polynomial when multiples of the other one are taken away; [] for 0."""
    found = list(numbers)
    lead = others[-1]
    while len(found) >= len(others):
        factor, gap = found[-1], len(found) - len(others)
        found = [lead * number for number in found]
        for k, other in enumerate(others):
            found[gap + k] -= factor * other
        while found and found[-1] == 0:
            found.pop()
    return found


def shared_part(numbers, others):
    """The greatest polynomial that divides both, in lowered terms; others may be []."""
    found, rest = lowered_terms(numbers), lowered_terms(others)
    while rest:
        found, rest = rest, lowered_terms(remainder(found, rest))
    return found


def divided(numbers, others):
    """The polynomial over one that divides it in whole numbers."""
    left, found = list(numbers), []
    while len(left) >= len(others):
        factor, gap = left[-1] // others[-1], len(left) - len(others)
        found.append(factor)
        for k, other in enumerate(others):
            left[gap + k] -= factor * other
        left.pop()
    return found[::-1]


def roots_once(numbers):
    """A polynomial with the same roots, each of them just once."""
    return divided(lowered_terms(numbers), shared_part(numbers, slope(numbers)))


def all_roots_once(numbers, others):
    """A polynomial with the roots of both, each of them just once."""
    one, other = roots_once(numbers), roots_once(others)
    return multiplied_out(one, divided(other, shared_part(one, other)))


def size_bits(numbers):
    """A whole number from 1 on such that 2 to this power is above the sizes of all roots."""
    lead_bits = numbers[-1].bit_length()
    found = 0
    for power, number in enumerate(numbers[-2::-1]):
        # No root is greater than twice the greatest k-th root of |number k behind the lead / lead| (Fujiwara).
        found = max(found, -((lead_bits - 1 - number.bit_length()) // (power + 1)))
    return found + 1
