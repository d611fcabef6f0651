"""Walls: steps, common points, parting weights, rings, orders that end, and by how much a round shrinks."""
import unittest
from decimal import Decimal, getcontext
from fractions import Fraction
from itertools import product as all_of
from random import Random

from chosen import dots, rank
from helpers import (
    NIL, ODD_FRACTIONS, ODD_VALUES, ONE, TWO, Prickly, det, fraction_maker, made_row, number, numbers, pair_of, row_of)
from sweepends.walls import (
    does_shrink, is_fence, nearest_point, parting_weights, ring_of, round_of, rounds_needed, shrinking_near, wall_step)

SIZES = (1, 2, 3, 4, 5)
HALF, TINY = Fraction(1, 2), Fraction(1, 10 ** 30)
SHARES = (Fraction(1), HALF, Fraction(3, 2), Fraction(1, 7), Fraction(19, 10))


def fence_of(sides):
    return tuple((row_of(row), pair_of(right)) for row, right in sides)


def moved(side, share, point):
    row, right = side
    far = (right - dots(row, point)) / dots(row, row)
    return [part + share * far * other for part, other in zip(point, row)]


def gone_round(sides, order, share, point):
    found = []
    for at in order:
        point = moved(sides[at], share, point)
        found.append(point)
    return found


def flat(sides):
    return [(row, Fraction(0)) for row, _ in sides]


def is_sum_of(rows, row):
    return rank([list(line) for line in rows]) == rank([list(line) for line in rows] + [list(row)])


def chosen_fences():
    """Walls that meet and walls that part: equal ones, such that depend on one another, more or fewer than unknowns."""
    for size in SIZES:
        for seed in range(14):
            chance, make = Random(seed), fraction_maker(seed, 4)
            point = [make() for _ in range(size)]
            many = 1 + (seed + size) % 6
            rows = []
            for at in range(many):
                row = [make() if chance.random() < 0.7 else Fraction(0) for _ in range(size)]
                if at > 1 and seed % 3 == 0:
                    row = [2 * one - other / 3 for one, other in zip(rows[0], rows[1])]
                if at > 0 and seed % 5 == 1:
                    row = [-2 * part for part in rows[at - 1]]
                rows.append(row if any(row) else [Fraction(int(k == at % size)) for k in range(size)])
            yield [(row, dots(row, point)) for row in rows]
            yield [(row, make()) for row in rows]
            yield [(row, dots(row, point) + (TINY if at == many - 1 else 0)) for at, row in enumerate(rows)]
    one, zero = Fraction(1), Fraction(0)
    yield [([one], zero)] * 6
    yield [([one], zero), ([2 * one], zero), ([-one], TINY)]
    yield [([one, one], one), ([-one, -one], -one), ([one, zero], zero)]
    yield [([one, one], one), ([-one, -one], one)]
    yield [([one, zero], zero), ([zero, one], zero), ([one, one], one)]
    yield [([one, zero, zero], zero), ([zero, one, zero], one), ([one, one, zero], one), ([one, -one, zero], -one)]
    yield [([one] * 5, Fraction(10 ** 30)), ([one] * 4 + [zero], one)]


def orders_of(many, seed):
    chance = Random(seed)
    yield tuple(range(many))
    yield (seed % many,)
    yield (seed % many,) * 3
    yield tuple(chance.randrange(many) for _ in range(1 + seed % 7))
    yield tuple(range(many)) + tuple(range(many))[::-1]


def every_order():
    """Each with walls, an order, a share and a guess."""
    for at, sides in enumerate(chosen_fences()):
        for k, order in enumerate(orders_of(len(sides), at)):
            yield sides, order, SHARES[(at + k) % 5], made_row(len(sides[0][0]), at + k)


class Fences(unittest.TestCase):
    def test_made_up_walls(self):
        for sides in chosen_fences():
            fence = fence_of(sides)
            self.assertIs(is_fence(fence), True)
            self.assertIs(is_fence(value=fence * 6), len(fence) == 1)
            self.assertIs(is_fence(list(fence)), False)

    def test_any_values(self):
        side = ((ONE, TWO), NIL)
        for odd in ODD_VALUES + ODD_FRACTIONS:
            for wrong in (odd, (odd,), (side, odd), (odd, side), ((odd, odd),), (((ONE, odd), NIL),), (((odd,), NIL),),
                          (((ONE, TWO), odd),), (side, ((ONE, TWO), odd))):
                self.assertIs(is_fence(wrong), False)
        for wrong in ([side], (list(side),), (((ONE, TWO),),), (((NIL, NIL), ONE),), (((NIL,), NIL),), (((), NIL),),
                      (((ONE,) * 6, NIL),), (side, ((ONE,), NIL)), (side, ((ONE,) * 3, NIL)), (side + (ONE,),),
                      (side,) * 7, side, (Prickly(), side), ((Prickly(), Prickly()),), ((side[0], 0),)):
            self.assertIs(is_fence(wrong), False)
        for size in SIZES:
            for at in range(size):
                row = tuple(ONE if k == at else NIL for k in range(size))
                self.assertIs(is_fence(((row, NIL),)), True)


class Steps(unittest.TestCase):
    def test_by_the_formula(self):
        for at, sides in enumerate(chosen_fences()):
            fence, size = fence_of(sides), len(sides[0][0])
            for index in range(len(sides)):
                for share in SHARES:
                    guess = made_row(size, at + index)
                    found = wall_step(fence, index, pair_of(share), row_of(guess))
                    self.assertEqual(found, row_of(moved(sides[index], share, guess)))
                    named = {"guess": row_of(guess), "share": pair_of(share), "index": index, "walls": fence}
                    self.assertEqual(wall_step(**named), found)

    def test_nearest_with_the_share_1(self):
        for at, (row, right) in enumerate([side for sides in chosen_fences() for side in sides]):
            if at % 3:
                continue
            guess = made_row(len(row), at)
            found = [number(part) for part in wall_step(fence_of([(row, right)]), 0, ONE, row_of(guess))]
            self.assertEqual(dots(row, found), right)
            self.assertTrue(is_sum_of([row], [one - other for one, other in zip(found, guess)]))

    def test_squares_of_distances_fall(self):
        for at, (row, right) in enumerate([side for sides in chosen_fences() for side in sides]):
            if at % 3:
                continue
            share, guess, other = SHARES[at % 5], made_row(len(row), at), made_row(len(row), at + 1)
            fence = fence_of([(row, right)])
            on_it = [number(part) for part in wall_step(fence, 0, ONE, row_of(other))]
            found = [number(part) for part in wall_step(fence, 0, pair_of(share), row_of(guess))]
            before = [one - two for one, two in zip(guess, on_it)]
            behind = [one - two for one, two in zip(found, on_it)]
            fall = share * (2 - share) * (right - dots(row, guess)) ** 2 / dots(row, row)
            self.assertEqual(dots(behind, behind), dots(before, before) - fall)

    def test_rounds(self):
        for sides, order, share, guess in every_order():
            found = round_of(fence_of(sides), order, pair_of(share), row_of(guess))
            self.assertEqual(found, tuple(row_of(point) for point in gone_round(sides, order, share, guess)))
            named = {"guess": row_of(guess), "share": pair_of(share), "order": order, "walls": fence_of(sides)}
            self.assertEqual(round_of(**named), found)

    def test_big_numbers(self):
        big = 10 ** 399
        fence, guess = ((((big, 1), (1, big)), (big, 7)), ((ONE, (-big, 3)), ONE)), ((big, 1), (1 - big, big))
        sides = [(numbers([row])[0], number(right)) for row, right in fence]
        start = numbers([guess])[0]
        for share in ((1, big), ONE, (2 * big - 1, big)):
            points = gone_round(sides, (0, 1, 0), number(share), start)
            self.assertEqual(round_of(fence, (0, 1, 0), share, guess), tuple(row_of(point) for point in points))
        found = nearest_point(fence, guess)
        self.assertEqual(nearest_point(fence, found), found)
        self.assertEqual(wall_step(fence, 1, (1, 3), found), found)


class Meeting(unittest.TestCase):
    def test_just_one_of_both(self):
        told = []
        for at, sides in enumerate(chosen_fences()):
            fence, size = fence_of(sides), len(sides[0][0])
            weights = parting_weights(fence)
            told.append(weights is None)
            guess = made_row(size, at)
            found = nearest_point(fence, row_of(guess))
            self.assertEqual(found is None, weights is not None)
            rows = [row for row, _ in sides]
            both = [row + [right] for row, right in sides]
            self.assertEqual(weights is None, rank(rows) == rank(both))
            if weights is None:
                point = [number(part) for part in found]
                self.assertEqual(found, row_of(point))
                self.assertTrue(all(dots(row, point) == right for row, right in sides))
                # What it is away from the guess is at right angles to all ways along the walls.
                self.assertTrue(is_sum_of(rows, [one - other for one, other in zip(point, guess)]))
                self.assertEqual(nearest_point(guess=found, walls=fence), found)
            else:
                shares = [number(part) for part in weights]
                self.assertEqual((type(weights), len(weights), weights), (tuple, len(sides), row_of(shares)))
                for k in range(size):
                    self.assertEqual(sum(share * row[k] for share, row in zip(shares, rows)), 0)
                self.assertNotEqual(sum(share * right for share, (_, right) in zip(shares, sides)), 0)
        self.assertGreater(told.count(True), 80)
        self.assertGreater(told.count(False), 80)

    def test_a_little_beside(self):
        one, zero = Fraction(1), Fraction(0)
        for extra, meets in ((0, True), (TINY, False), (-TINY, False)):
            fence = fence_of([([one, one], one), ([one, -one], one), ([3 * one, one], 3 + extra)])
            self.assertIs(parting_weights(walls=fence) is None, meets)
            self.assertIs(nearest_point(fence, (NIL, NIL)) is not None, meets)
            equal = fence_of([([one, zero], one)] * 5 + [([2 * one, zero], 2 + extra)])
            self.assertIs(parting_weights(equal) is None, meets)

    def test_orders_go_to_the_nearest_point(self):
        for at, sides in enumerate(chosen_fences()):
            if at % 6:
                continue
            fence, guess = fence_of(sides), made_row(len(sides[0][0]), at)
            found = nearest_point(fence, row_of(guess))
            if found is None:
                continue
            point, goal = guess, [number(part) for part in found]
            ahead = [one - other for one, other in zip(point, goal)]
            for order in list(orders_of(len(sides), at))[:1] * 6:
                point = gone_round(sides, order, Fraction(1), point)[-1]
                behind = [one - other for one, other in zip(point, goal)]
                self.assertTrue(dots(behind, behind) < dots(ahead, ahead) or not any(ahead))
                self.assertEqual(nearest_point(fence, row_of(point)), found)
                ahead = behind


class Rings(unittest.TestCase):
    def test_the_only_tuple(self):
        told = []
        for sides, order, share, guess in every_order():
            fence = fence_of(sides)
            found = ring_of(fence, order, pair_of(share), row_of(guess))
            self.assertEqual((type(found), len(found)), (tuple, len(order)))
            ring = numbers(found)
            rows = [sides[at][0] for at in order]
            for k, at in enumerate(order):
                self.assertEqual(ring[k], moved(sides[at], share, ring[k - 1]))
                self.assertTrue(is_sum_of(rows, [one - other for one, other in zip(ring[k], guess)]))
            self.assertEqual(found, tuple(row_of(point) for point in ring))
            # All points are the same just if the walls of the order meet.
            met = nearest_point(tuple(fence[at] for at in sorted(set(order))), row_of(guess))
            told.append(met is None)
            self.assertEqual(all(point == found[0] for point in found), met is not None)
            if met is not None:
                self.assertEqual(found[0], met)
            self.assertEqual(round_of(fence, order, pair_of(share), found[-1]), found)
            # Begun within the ring's reach it is the same one, also a round later.
            later = round_of(fence, order, pair_of(share), row_of(guess))[-1]
            named = {"guess": later, "share": pair_of(share), "order": order, "walls": fence}
            self.assertEqual(ring_of(**named), found)
        self.assertGreater(told.count(True), 100)
        self.assertGreater(told.count(False), 100)

    def test_rounds_come_nearer(self):
        for at, (sides, order, share, guess) in enumerate(every_order()):
            if at % 9:
                continue
            last = numbers(ring_of(fence_of(sides), order, pair_of(share), row_of(guess)))[-1]
            ahead = [one - other for one, other in zip(guess, last)]
            for _ in range(3):
                guess = gone_round(sides, order, share, guess)[-1]
                behind = [one - other for one, other in zip(guess, last)]
                self.assertTrue(dots(behind, behind) < dots(ahead, ahead) or not any(ahead))
                ahead = behind

    def test_walls_that_are_left_out(self):
        one, zero = Fraction(1), Fraction(0)
        fence = fence_of([([one, zero], zero), ([zero, one], 5 * one), ([one, zero], 2 * one)])
        # What is at right angles to the walls of the order stays.
        self.assertEqual(ring_of(fence, (0, 2), ONE, row_of([9, 7])), (row_of([0, 7]), row_of([2, 7])))
        self.assertEqual(ring_of(fence, (1,), (1, 2), row_of([9, 7])), (row_of([9, 5]),))
        self.assertEqual(ring_of(fence, (1, 1, 1), (1, 2), row_of([9, 7])), (row_of([9, 5]),) * 3)
        self.assertEqual(ring_of(fence, (0, 1, 2, 1), ONE, row_of([9, 7])),
                         (row_of([0, 5]), row_of([0, 5]), row_of([2, 5]), row_of([2, 5])))

    def test_twenty_four_steps(self):
        for seed in range(4):
            chance = Random(seed)
            rows = [[Fraction(chance.randint(-3, 3)) for _ in range(4)] + [Fraction(1)] for _ in range(6)]
            sides = [(row, Fraction(at)) for at, row in enumerate(rows)]
            order = tuple(chance.randrange(6) for _ in range(24))
            ring = numbers(ring_of(fence_of(sides), order, (5, 3), row_of([1, 2, 3, 4, 5])))
            self.assertTrue(all(ring[k] == moved(sides[at], Fraction(5, 3), ring[k - 1]) for k, at in enumerate(order)))


def kept_ways(sides, order):
    """Rows of the order's walls, none a sum of multiples of others."""
    found = []
    for at in order:
        if not is_sum_of(found, sides[at][0]) or not found:
            found.append(sides[at][0])
    return found


def rounds_by_hand(sides, order, share):
    """By what rounds make of the rows of the order's walls, up to one more than there are."""
    ways = kept_ways(sides, order)
    for count in range(1, len(ways) + 2):
        ways = [gone_round(flat(sides), order, share, way)[-1] for way in ways]
        if not any(any(way) for way in ways):
            return count
    return None


class Ending(unittest.TestCase):
    def test_by_rounds(self):
        told = {}
        for sides, order, share, guess in every_order():
            for used in (share, Fraction(1)):
                found = rounds_needed(fence_of(sides), order, pair_of(used))
                self.assertEqual(found, rounds_by_hand(sides, order, used))
                self.assertEqual(rounds_needed(share=pair_of(used), order=order, walls=fence_of(sides)), found)
                told[found] = told.get(found, 0) + 1
                if found is None:
                    continue
                self.assertLessEqual(found, rank([sides[at][0] for at in order]))
                last = numbers(ring_of(fence_of(sides), order, pair_of(used), row_of(guess)))[-1]
                point = guess
                for _ in range(found):
                    point = gone_round(sides, order, used, point)[-1]
                self.assertEqual(point, last)
        self.assertGreater(told[1], 50)
        self.assertGreater(told[None], 50)

    def test_more_rounds(self):
        one, zero = Fraction(1), Fraction(0)
        side, slope, floor = ([one, zero], zero), ([one, one], 2 * one), ([zero, one], one)
        # Turns of a right angle in several steps, in more and more unknowns beside one another.
        wanted = {(0, 1, 2): 2, (0, 2): 1, (0, 1): None, (0,): 1, (0, 0): 1, (0, 2, 1): 1,
                  (2, 0, 2, 0): 1, (2, 1): None, (1, 1, 0): None, (2, 1, 0): 2, (0, 1, 2, 0): 1}
        for order, count in wanted.items():
            self.assertEqual(rounds_needed(fence_of([side, slope, floor]), order, ONE), count)
            self.assertEqual(rounds_by_hand([side, slope, floor], order, one), count)
            self.assertIsNone(rounds_needed(fence_of([side, slope, floor]), order, (1, 2)))

    def test_as_many_rounds_as_the_rank(self):
        told = set()
        for rows, order in (([[2, 2, 0], [-1, 1, 1], [2, 1, 1], [-1, 2, -1], [0, 0, 1]], (1, 3, 4, 2)),
                            ([[-1, 1, 1, 1], [1, 0, 0, 1], [2, -1, 2, 0], [0, 1, -1, 2]], (0, 3, 3, 2, 1)),
                            ([[1, 0, 2], [1, -1, 0], [-1, -1, 1], [1, 1, 0], [1, 0, 1]], (1, 4, 0, 2, 3))):
            sides = [([Fraction(part) for part in row], Fraction(at)) for at, row in enumerate(rows)]
            self.assertEqual(rounds_by_hand(sides, order, Fraction(1)), 3)
            self.assertEqual(rounds_needed(fence_of(sides), order, ONE), 3)
        for size in (2, 3, 4, 5):
            for seed in range(60):
                chance = Random(seed)
                sides = [([Fraction(chance.choice((-1, 0, 1))) for _ in range(size)], Fraction(chance.randint(0, 2)))
                         for _ in range(6)]
                sides = [(row if any(row) else [Fraction(1)] * size, right) for row, right in sides]
                order = tuple(chance.randrange(6) for _ in range(2 + seed % 9))
                found = rounds_needed(fence_of(sides), order, ONE)
                self.assertEqual(found, rounds_by_hand(sides, order, Fraction(1)))
                told.add(found)
        self.assertLessEqual({None, 1}, told)

    def test_only_the_share_1_ends(self):
        for at, sides in enumerate(chosen_fences()):
            for share in SHARES[1:] + (1 - TINY, 1 + TINY):
                self.assertIsNone(rounds_needed(fence_of(sides), tuple(range(len(sides))), pair_of(share)))


class Shrinking(unittest.TestCase):
    def near(self, sides, order, share, wanted):
        """Both functions around a shrinking that is a fraction."""
        fence, part = fence_of(sides), pair_of(share)
        for many in (1, 2, 9, wanted.denominator, 3 * wanted.denominator, 10 ** 6):
            if many <= 10 ** 6:
                told = (wanted * many).numerator // (wanted * many).denominator, (wanted * many).denominator == 1
                found = shrinking_near(fence, order, part, many)
                self.assertEqual(found, told)
                self.assertEqual([type(one) for one in found], [int, bool])
                self.assertEqual(shrinking_near(many=many, share=part, order=order, walls=fence), found)
        for tried in (wanted, wanted + TINY, wanted - TINY, wanted * 2, wanted / 2, Fraction(1), Fraction(7), TINY):
            if tried > 0:
                found = does_shrink(fence, order, part, pair_of(tried))
                self.assertIs(found, tried >= wanted)
                self.assertIs(does_shrink(fraction=pair_of(tried), share=part, order=order, walls=fence), found)

    def test_one_wall(self):
        for size in SIZES:
            row = made_row(size, size) if any(made_row(size, size)) else [Fraction(1)] * size
            for share in SHARES + (1 + TINY,):
                for count in (1, 2, 5):
                    wanted = (1 - share) ** (2 * count)
                    self.near([(row, Fraction(3))], (0,) * count, share, wanted)
                    # Alike walls are one.
                    sides = [(row, Fraction(3)), ([-2 * part for part in row], HALF)]
                    self.near(sides, (0, 1) * count, share, wanted ** 2)

    def test_two_walls_in_turn(self):
        for one, other in (([1, 0], [1, 1]), ([1, 2], [2, 1]), ([3, 4], [4, 3]), ([1, 0, 0], [1, 1, 1]),
                           ([1, 5], [5, -1]), ([1, -7, 2], [HALF, 3, 1]), ([10 ** 9, 1], [1, 0]),
                           ([1, 1, 1, 1], [1, 1, 0, 0])):
            one, other = [Fraction(part) for part in one], [Fraction(part) for part in other]
            # Behind the first round all is along the last wall: the square of the cosine is left at most.
            wanted = dots(one, other) ** 2 / dots(one, one) / dots(other, other)
            for order in ((0, 1), (1, 0), (0, 1, 1), (0, 0, 1)):
                self.near([(one, Fraction(1)), (other, Fraction(2))], order, Fraction(1), wanted)
            self.near([(one, Fraction(1)), (other, Fraction(2))], (0, 1, 0), Fraction(1), wanted ** 2)

    def test_walls_at_right_angles(self):
        for size in SIZES:
            sides = [([Fraction(int(k == at)) for k in range(size)], Fraction(at)) for at in range(size)]
            for share in SHARES:
                self.near(sides, tuple(range(size)), share, (1 - share) ** 2)
                self.near(sides, tuple(range(size)) + (0,), share, (1 - share) ** (2 if size > 1 else 4))

    def test_ends_within_one_round(self):
        for sides, order, share, _ in every_order():
            for used in (share, Fraction(1)):
                found = shrinking_near(fence_of(sides), order, pair_of(used), 10 ** 6)
                is_nought = rounds_needed(fence_of(sides), order, pair_of(used)) == 1
                self.assertEqual(found == (0, True), is_nought)
                self.assertLess(found[0], 10 ** 6)
                self.assertIs(does_shrink(fence_of(sides), order, pair_of(used), pair_of(TINY * TINY)), is_nought)

    def test_no_guess_does_worse(self):
        for at, (sides, order, share, guess) in enumerate(every_order()):
            fence, part = fence_of(sides), pair_of(share)
            many = (1, 10, 1000, 10 ** 6)[at % 4]
            near, is_just = shrinking_near(fence, order, part, many)
            above = Fraction(near + (not is_just), many)
            if above > 0:
                self.assertIs(does_shrink(fence, order, part, pair_of(above)), True)
            if near > 0:
                below = Fraction(near, many) - (Fraction(1, 10 ** 12) if is_just else 0)
                self.assertIs(does_shrink(fence, order, part, pair_of(below)), False)
            last = numbers(ring_of(fence, order, part, row_of(guess)))[-1]
            for seed in range(2):
                ways = kept_ways(sides, order)
                shares = made_row(len(ways), seed + at)
                way = [sum(one * row[k] for one, row in zip(shares, ways)) for k in range(len(last))]
                start = [one + other for one, other in zip(last, way)]
                behind = [one - other for one, other in zip(gone_round(sides, order, share, start)[-1], last)]
                self.assertLessEqual(dots(behind, behind), above * dots(way, way))

    def test_shrinkings_that_are_no_fractions(self):
        """Two ways are left: the greater root of the squares left over the squares, by Decimal."""
        getcontext().prec = 80
        for seed in range(30):
            chance = Random(seed)
            sides = [([Fraction(chance.randint(-4, 4)), Fraction(chance.randint(1, 4))], Fraction(1)) for _ in range(3)]
            order, share = (0, 1, 2, 1)[:2 + seed % 3], SHARES[1 + seed % 4]
            if rank([sides[at][0] for at in order]) < 2:
                continue
            left = [gone_round(flat(sides), order, share, way)[-1] for way in ([1, 0], [0, 1])]
            squares = [[dots(one, other) for other in left] for one in left]
            trace, whole = squares[0][0] + squares[1][1], det(squares)
            half, inner = trace / 2, trace * trace / 4 - whole
            root = (Decimal(inner.numerator) / Decimal(inner.denominator)).sqrt()
            wanted = Decimal(half.numerator) / Decimal(half.denominator) + root
            for many in (1, 7, 1000, 10 ** 6):
                near, is_just = shrinking_near(fence_of(sides), order, pair_of(share), many)
                self.assertEqual(near, int(wanted * many + Decimal(10) ** -60))
                if is_just:
                    self.assertLess(abs(wanted * many - near), Decimal(10) ** -60)
            digits = Fraction(int(wanted * 10 ** 40), 10 ** 40)
            for tried, told in ((digits + TINY, True), (digits - TINY, False)):
                if tried > 0:
                    self.assertIs(does_shrink(fence_of(sides), order, pair_of(share), pair_of(tried)), told)

    def test_far_from_1_and_near_it(self):
        # Walls that are nearly the same: the shrinking is hardly below 1, told near it is not.
        sides = [([Fraction(1), Fraction(0)], Fraction(0)), ([Fraction(1), TINY], Fraction(0))]
        self.assertEqual(shrinking_near(fence_of(sides), (0, 1), ONE, 10 ** 6), (10 ** 6 - 1, False))
        self.assertIs(does_shrink(fence_of(sides), (0, 1), ONE, ONE), True)
        self.assertIs(does_shrink(fence_of(sides), (0, 1), ONE, pair_of(1 - TINY * TINY / 2)), True)
        self.assertIs(does_shrink(fence_of(sides), (0, 1), ONE, pair_of(1 - TINY * TINY * 2)), False)
        for order in all_of((0, 1), repeat=3):
            self.assertEqual(shrinking_near(fence_of(sides), order, ONE, 1)[0], 0)


if __name__ == "__main__":
    unittest.main()
