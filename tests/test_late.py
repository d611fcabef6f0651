"""Late runs: what they are, when they are tidy, where they lead, and whether all of them do."""
import unittest
from fractions import Fraction
from itertools import product as all_of
from random import Random

from chosen import blocks, companion, jordan, minus_rows, one_rows, parting_for, regular, single, turning
from helpers import (
    NIL, ODD_FRACTIONS, ODD_VALUES, ONE, TWO, Prickly, det, made_row, made_rows, number, numbers, one_table, pair_of,
    row_of, table_of)
from sweepends.dying import does_die
from sweepends.late import (
    box_factor, boxing_amounts, growing_contents, is_late, is_tidy, late_run, staying_round, step_bound)
from sweepends.methods import parting_of
from sweepends.partings import error_table, solution, step

SIZES = (1, 2, 3, 4, 5)


def drawn_steps(size, many, seed, back=None):
    """Late steps; with a number for back no pick is more than so many values ahead of the last one."""
    chance = Random(seed)
    counts, found = [2] * size, []
    for _ in range(many):
        at = chance.randrange(size)
        picks = [chance.randrange(max(0, count - back) if back else 0, count) for count in counts]
        found.append((at, tuple(picks)))
        counts[at] += 1
    return tuple(found)


def values_of(parting, right, older, newer, steps):
    """All values of all unknowns by the recursion, in numbers of Python."""
    rows = numbers(error_table(parting))
    back = [number(part) for part in solution(parting[1], right)]
    values = [[number(first), number(second)] for first, second in zip(older, newer)]
    for at, picks in steps:
        values[at].append(sum(rows[at][k] * values[k][pick] for k, pick in enumerate(picks)) + back[at])
    return values


def is_tidy_by_words(size, steps, least):
    """Point 18, word for word."""
    came = [[0, 0] for _ in range(size)]
    for k, (at, _) in enumerate(steps):
        came[at].append(k + 1)
    for first in range(len(steps)):
        if first + least <= len(steps):
            if {at for at, _ in steps[first:first + least]} != set(range(size)):
                return False
    for k, (_, picks) in enumerate(steps):
        for j, pick in enumerate(picks):
            if any(value == pick + 1 and stamp <= k + 1 - least for value, stamp in enumerate(came[j])):
                return False
    return True


def sizes_times(rows, row):
    return [sum(abs(part) * other for part, other in zip(line, row)) for line in rows]


def chosen_tables():
    """Rows of error tables of all kinds: with noughts, with unknowns that go by themselves, around the size 1."""
    half, near = Fraction(1, 2), Fraction(1, 10 ** 30)
    parts = [single(0), single(half), single(-half), single(-1), single(2), single(1 - near), single(-1 - near),
             turning(0, 1), turning(half, half), turning(half, half - near), turning(half, -half - near),
             jordan(half, 2), jordan(0, 3), jordan(-half, 3), companion(half, 0), companion(-half, half),
             companion(0, half), companion(Fraction(1, 3), 0, Fraction(-1, 3)), companion(half, 0, 0, half)]
    for rows in parts:
        yield rows
    for one, other in all_of(parts, repeat=2):
        if len(one) + len(other) <= 5:
            yield blocks(one, other)
    for size in SIZES:
        for seed in range(30):
            rows = made_rows(size, seed, 3)
            chance = Random(seed)
            thinned = [[part if chance.random() < 0.4 + 0.02 * seed else Fraction(0) for part in row] for row in rows]
            for share in (1, 2, size, 2 * size):
                yield [[part / share for part in row] for row in thinned]
    # One that leads on to another without an answer, both ways round.
    for upper in (0, 1):
        for one, other in ((half, -2), (-2, half), (half, half), (-1, half), (0, -1)):
            rows = [[Fraction(one), Fraction(upper * 9)], [Fraction((1 - upper) * 9), Fraction(other)]]
            yield rows


def chosen_partings():
    for seed, rows in enumerate(chosen_tables()):
        if det(minus_rows(one_rows(len(rows)), rows)) != 0:
            yield rows, parting_for(rows, seed if seed % 9 == 0 else None)


class Late(unittest.TestCase):
    def test_drawn_ones(self):
        for size in SIZES:
            for seed in range(8):
                steps = drawn_steps(size, 40, seed)
                self.assertIs(is_late(size, steps), True)
                self.assertIs(is_late(value=steps, size=size), True)
                self.assertIs(is_late(size, steps[:seed]), True)
                for other in SIZES:
                    if other != size:
                        self.assertIs(is_late(other, steps), False)

    def test_no_steps(self):
        for size in SIZES:
            self.assertIs(is_late(size, ()), True)

    def test_any_values(self):
        for size in SIZES:
            right = (0, (0,) * size)
            self.assertIs(is_late(size, (right,)), True)
            for odd in ((Prickly(),) * size, [right], right, list(right), {0: right}):
                self.assertIs(is_late(size, odd), False)
            for odd in ODD_VALUES + ODD_FRACTIONS:
                if type(odd) is int and odd in (0, 1):
                    continue
                wrongs = [odd, (odd, right[1]), (0, (odd,) * size), (0, right[1][1:] + (odd,)), (0, right[1], odd)]
                if not (type(odd) is tuple and all(type(part) is int for part in odd)):
                    wrongs.append((0, odd))
                    self.assertIs(is_late(size, odd), False)
                for wrong in wrongs:
                    self.assertIs(is_late(size, (right, wrong)), False)
                    self.assertIs(is_late(size, (wrong, right)), False)

    def test_true_and_false_are_no_numbers(self):
        for odd in ((True, (0, 0)), (False, (0, 0)), (0, (True, 0)), (0, (0, False)), (1, (False, True))):
            self.assertIs(is_late(2, (odd,)), False)
        self.assertIs(is_late(2, ((1, (0, 1)),)), True)

    def test_picks_that_are_not_there(self):
        for size in SIZES:
            for at in range(size):
                for j in range(size):
                    first = (at, (1,) * size)
                    for pick, told in ((0, True), (1, True), (2, at == j), (3, False), (-1, False)):
                        picks = tuple(pick if k == j else 0 for k in range(size))
                        self.assertIs(is_late(size, (first, (0, picks))), told)
                        self.assertIs(is_late(size, ((0, picks),)), pick in (0, 1))
        # What an older value was picked for is the newest one all the same.
        self.assertIs(is_late(1, ((0, (0,)), (0, (0,)), (0, (3,)))), True)
        self.assertIs(is_late(1, ((0, (0,)), (0, (0,)), (0, (4,)))), False)

    def test_two_hundred(self):
        for size in SIZES:
            steps = drawn_steps(size, 200, size)
            self.assertIs(is_late(size, steps), True)
            self.assertIs(is_late(size, steps + steps[:1]), False)


class Runs(unittest.TestCase):
    def check(self, parting, right, older, newer, steps):
        values = values_of(parting, right, older, newer, steps)
        found = late_run(parting, right, older, newer, steps)
        self.assertEqual(found, row_of([told[-1] for told in values]))
        return values

    def test_drawn_ones(self):
        for size in SIZES:
            for seed in range(12):
                parting = (table_of(regular(size, seed)), table_of(regular(size, seed + 70)))
                right, older, newer = [row_of(made_row(size, seed + k)) for k in (1, 2, 3)]
                for many, back in ((0, None), (1, None), (2, 1), (7, None), (20, 2), (20, None)):
                    self.check(parting, right, older, newer, drawn_steps(size, many, seed + many, back))

    def test_no_steps_give_the_newer_guess(self):
        for size in SIZES:
            parting = (table_of(regular(size, 3)), table_of(regular(size, 4)))
            right, older, newer = [row_of(made_row(size, k)) for k in (5, 6, 7)]
            self.assertEqual(late_run(parting, right, older, newer, ()), newer)
            self.assertEqual(late_run(steps=(), newer=newer, older=older, right=right, parting=parting), newer)

    def test_own_and_old_values(self):
        # x gets x / 2 + 1, from whichever value of its own is picked.
        parting = parting_for(single(Fraction(1, 2)))
        right = row_of([1])
        back = number(solution(parting[1], right)[0])
        start = (row_of([8]), row_of([-4]))
        for picks, wanted in (((0,), 4 + back), ((1,), -2 + back), ((0, 0), 4 + back), ((0, 2), 2 + back / 2 + back),
                              ((1, 0, 2), -1 + back / 2 + back), ((0, 1, 0, 1), -2 + back)):
            steps = tuple((0, (pick,)) for pick in picks)
            self.assertEqual(late_run(parting, right, *start, steps), row_of([wanted]))

    def test_errors_go_by_the_same_steps(self):
        for size in SIZES:
            for seed in range(6):
                parting = (table_of(regular(size, seed)), table_of(regular(size, seed + 30)))
                right, older, newer = [row_of(made_row(size, seed + k)) for k in (1, 2, 3)]
                steps = drawn_steps(size, 15, seed)
                found = numbers([solution(parting[0], right)])[0]
                errors = [row_of([number(part) - other for part, other in zip(row, found)]) for row in (older, newer)]
                told = numbers([late_run(parting, right, older, newer, steps)])[0]
                behind = row_of([part - other for part, other in zip(told, found)])
                self.assertEqual(late_run(parting, (NIL,) * size, *errors, steps), behind)
                # The solution stays, whatever is picked.
                still = row_of(found)
                self.assertEqual(late_run(parting, right, still, still, steps), still)

    def test_sweeps_as_late_runs(self):
        for size in SIZES:
            for seed in range(8):
                table = regular(size, seed)
                if any(table[at][at] == 0 for at in range(size)):
                    continue
                table, right, guess = table_of(table), row_of(made_row(size, seed)), row_of(made_row(size, seed + 1))
                each, behind = parting_of(table, ("each",)), parting_of(table, ("behind", ONE))
                back = parting_of(table, ("back", ONE))
                older = row_of(made_row(size, seed + 2))
                old, by_each, by_behind = guess, (), ()
                for turn in range(3):
                    by_each += tuple((at, (1 + turn,) * size) for at in range(size))
                    by_behind += tuple((at, tuple(1 + turn + (k < at) for k in range(size))) for at in range(size))
                wanted = guess
                for turn in range(1, 4):
                    wanted = step(each, right, wanted)
                    self.assertEqual(late_run(each, right, older, guess, by_each[:turn * size]), wanted)
                wanted = guess
                for turn in range(1, 4):
                    wanted = step(behind, right, wanted)
                    self.assertEqual(late_run(each, right, older, old, by_behind[:turn * size]), wanted)
                by_back = tuple((at, tuple(2 if k > at else 1 for k in range(size))) for at in reversed(range(size)))
                self.assertEqual(late_run(each, right, older, guess, by_back), step(back, right, guess))

    def test_two_hundred_steps(self):
        parting = parting_for([[Fraction(0), Fraction(1, 2)], [Fraction(-1, 3), Fraction(1, 5)]])
        values = self.check(parting, row_of([1, 2]), row_of([3, 4]), row_of([5, 6]), drawn_steps(2, 200, 5, 2))
        found = numbers([solution(parting[0], row_of([1, 2]))])[0]
        self.assertTrue(all(abs(told[-1] - part) < Fraction(1, 10 ** 6) for told, part in zip(values, found)))
        self.check(parting, row_of([1, 2]), row_of([3, 4]), row_of([5, 6]), drawn_steps(2, 200, 6))

    def test_far_apart_values(self):
        parting = (table_of(regular(2, 1)), table_of(regular(2, 2)))
        start = (row_of([3, 4]), row_of([Fraction(5, 7), 6]))
        steps = tuple((0, (1 + k, 0)) for k in range(12)) + ((1, (13, 0)), (1, (0, 2)), (0, (1, 3)))
        self.assertIs(is_late(2, steps), True)
        self.check(parting, row_of([1, Fraction(2, 3)]), *start, steps)

    def test_big_numbers(self):
        big = 10 ** 399
        parting = (((ONE, (1, big)), (NIL, (big, 3))), (((big, 7), NIL), (ONE, TWO)))
        self.check(parting, ((1, big), (big, 1)), ((big, 1), (big - 1, big)), (ONE, (-big, 1)), drawn_steps(2, 8, 1))


class Tidy(unittest.TestCase):
    def test_around_the_least_number(self):
        told = []
        for size in SIZES:
            for seed in range(25):
                for many, back in ((0, None), (1, 1), (size, 1), (12, 1), (25, 2), (25, None), (40, 1)):
                    steps = drawn_steps(size, many, seed, back)
                    least = [least for least in range(1, many + 2) if is_tidy_by_words(size, steps, least)][0]
                    told.append(least)
                    for tried in range(1, many + 3):
                        self.assertIs(is_tidy(size, steps, tried), tried >= least, (steps, tried))
        self.assertGreater(len(set(told)), 20)

    def test_sweeps(self):
        for size in SIZES:
            sweep = ()
            for turn in range(4):
                sweep += tuple((at, tuple(1 + turn + (k < at) for k in range(size))) for at in range(size))
            for least in range(1, 4 * size + 3):
                self.assertIs(is_tidy(size, sweep, least), least >= size)
                self.assertIs(is_tidy(steps=sweep, number=least, size=size), least >= size)

    def test_fewer_steps_than_the_number(self):
        # One unknown is never taken: only the picks count as long as there are fewer steps than the number.
        lean = ((0, (1, 1)), (0, (2, 1)), (0, (3, 1)))
        self.assertEqual([is_tidy(2, lean, least) for least in (1, 2, 3, 4, 5, 200)], [False] * 3 + [True] * 3)
        told = [is_tidy(1, steps, 1) for steps in ((), ((0, (1,)),), ((0, (0,)),))]
        self.assertEqual(told, [True, True, False])
        self.assertIs(is_tidy(5, ((3, (1,) * 5),), 1), False)
        self.assertIs(is_tidy(5, ((3, (1,) * 5),), 2), True)
        self.assertIs(is_tidy(5, (), 1), True)

    def test_step_0(self):
        # The older guess may be picked as long as the newer one came less than so many steps ago.
        for least in range(1, 8):
            for count in range(1, 10):
                steps = tuple((0, (k,)) for k in range(1, count)) + ((0, (0,)),)
                self.assertIs(is_tidy(1, steps, least), count < least)
        # What stands along the table or beside it does not count.
        self.assertIs(is_tidy(2, ((1, (0, 1)),), 2), True)
        self.assertIs(is_tidy(2, ((1, (0, 1)),), 1), False)

    def test_just_so_many_steps_ago(self):
        # Unknown 1 is taken anew in step 2; its newer guess is picked again so many steps behind that.
        for gap in range(1, 7):
            fresh = tuple((0, (1 + k, 1)) for k in range(1)) + ((1, (2, 1)),)
            fresh += tuple((0, (2 + k, 2)) for k in range(gap - 1))
            late = fresh + ((0, (1 + gap, 1)),)
            self.assertIs(is_late(2, late), True)
            for least in range(1, 10):
                self.assertIs(is_tidy(2, late, least), is_tidy_by_words(2, late, least))
                if least > gap + 1:
                    self.assertIs(is_tidy(2, late, least), True)
                if least <= gap:
                    self.assertIs(is_tidy(2, late, least), False)

    def test_the_last_value_is_never_old(self):
        # Unknown 1 has no value behind its newer guess, so this is fresh for ever.
        steps = tuple((0, (1 + k, 1)) for k in range(50))
        self.assertIs(is_tidy(2, steps, 51), True)
        self.assertIs(is_tidy(2, steps, 50), False)
        self.assertIs(is_tidy(2, steps + ((0, (51, 0)),), 52), True)
        self.assertIs(is_tidy(2, steps + ((0, (51, 0)),), 51), False)


class Boxes(unittest.TestCase):
    def test_just_one_of_both(self):
        told = []
        for rows, parting in chosen_partings():
            amounts, contents = boxing_amounts(parting), growing_contents(parting)
            self.assertIs((amounts is None), (contents is not None))
            told.append(contents is None)
            if amounts is not None:
                self.check_fractions(amounts, len(rows))
                row = [number(part) for part in amounts]
                self.assertTrue(all(part > 0 for part in row))
                self.assertTrue(all(reached < part for reached, part in zip(sizes_times(rows, row), row)))
                self.assertIsNone(staying_round(parting))
            else:
                self.check_fractions(contents, len(rows))
                row = [number(part) for part in contents]
                self.assertTrue(all(part >= 0 for part in row) and any(row))
                self.assertTrue(all(reached >= part for reached, part in zip(sizes_times(rows, row), row)))
        self.assertGreater(told.count(True), 100)
        self.assertGreater(told.count(False), 100)

    def check_fractions(self, row, size):
        self.assertIs(type(row), tuple)
        self.assertEqual(row, row_of([number(part) for part in row]))
        self.assertEqual(len(row), size)

    def test_by_the_size_of_the_sizes(self):
        for rows, parting in chosen_partings():
            sizes = [[abs(part) for part in row] for row in rows]
            is_one_a_root = det(minus_rows(one_rows(len(rows)), sizes)) == 0
            does = not is_one_a_root and does_die(parting_for(sizes))
            self.assertIs(boxing_amounts(parting) is not None, does)
            self.assertIs(growing_contents(parting=parting) is None, does)
            if does:
                self.assertIs(does_die(parting), True)

    def test_size_just_1(self):
        half = Fraction(1, 2)
        for rows in (single(-1), turning(0, 1), [[half, -half], [half, half]], [[-half, half], [half, half / 2]],
                     blocks(single(0), single(-1)), blocks(turning(0, 1), single(half)),
                     [[-half, -half, 0], [half, 0, half], [0, 1, 0]]):
            rows = [[Fraction(part) for part in row] for row in rows]
            if det(minus_rows(one_rows(len(rows)), rows)) == 0:
                continue
            parting = parting_for(rows, 2)
            sizes = [[abs(part) for part in row] for row in rows]
            if det(minus_rows(one_rows(len(rows)), sizes)) == 0:
                self.assertIsNone(boxing_amounts(parting))
                self.assertIsNotNone(growing_contents(parting))

    def test_dying_is_not_enough(self):
        # The errors of steps die, but not those of late runs: |T| has the root 6 / 5.
        rows = [[Fraction(3, 5), Fraction(3, 5)], [Fraction(-3, 5), Fraction(3, 5)]]
        parting = parting_for(rows)
        self.assertIs(does_die(parting), True)
        self.assertIsNone(boxing_amounts(parting))
        self.assertIsNotNone(growing_contents(parting))

    def test_big_numbers(self):
        big = 10 ** 399
        for root, does in ((Fraction(big - 1, big), True), (Fraction(1 - big, big), True), (Fraction(-1), False),
                           (Fraction(-big - 1, big), False), (Fraction(big), False), (Fraction(1, big), True)):
            parting = parting_for(single(root))
            self.assertIs(boxing_amounts(parting) is not None, does)
            self.assertIs(growing_contents(parting) is None, does)
            if does:
                amounts = boxing_amounts(parting)
                self.assertEqual(box_factor(parting, amounts), pair_of(abs(root)))
                self.assertEqual(step_bound(parting, amounts), pair_of(abs(root) / (1 - abs(root))))


class Factors(unittest.TestCase):
    def test_by_the_rows(self):
        for at, (rows, parting) in enumerate(chosen_partings()):
            if at % 4:
                continue
            for seed in range(3):
                amounts = [abs(part) + Fraction(1, 1 + k) for k, part in enumerate(made_row(len(rows), at + seed))]
                wanted = max(reached / part for reached, part in zip(sizes_times(rows, amounts), amounts))
                self.assertEqual(box_factor(parting, row_of(amounts)), pair_of(wanted))
                self.assertEqual(box_factor(amounts=row_of(amounts), parting=parting), pair_of(wanted))
                if wanted < 1:
                    self.assertEqual(step_bound(parting, row_of(amounts)), pair_of(wanted / (1 - wanted)))
            amounts = boxing_amounts(parting)
            if amounts is not None:
                factor = number(box_factor(parting, amounts))
                self.assertLess(factor, 1)
                self.assertEqual(step_bound(parting, amounts), pair_of(factor / (1 - factor)))

    def test_noughts_and_1(self):
        for size in SIZES:
            table, row = table_of(regular(size, size)), (ONE,) * size
            self.assertEqual(box_factor((table, table), row), NIL)
            self.assertEqual(step_bound((table, table), row), NIL)
        self.assertEqual(box_factor(parting_for(single(-1)), (TWO,)), ONE)
        self.assertEqual(box_factor(parting_for(turning(0, 1)), (ONE, ONE)), ONE)
        self.assertEqual(box_factor(parting_for(turning(0, 1)), (ONE, TWO)), TWO)

    def test_errors_in_the_box(self):
        """Point 20: in a run tidy with s all last values behind 2 s j steps are within q to the power j."""
        for size in SIZES:
            for seed in range(6):
                rows = [[part / (3 * size) for part in row] for row in made_rows(size, seed, 3)]
                if det(minus_rows(one_rows(size), rows)) == 0:
                    continue
                parting = parting_for(rows, seed)
                amounts = boxing_amounts(parting)
                if amounts is None:
                    continue
                factor, box = number(box_factor(parting, amounts)), [number(part) for part in amounts]
                chance = Random(seed)
                starts = [row_of([chance.choice((-1, 1, Fraction(1, 3))) * part for part in box]) for _ in range(2)]
                steps, counts = [], [2] * size
                for turn in range(70):
                    at = turn % size if seed % 2 else chance.randrange(size)
                    steps.append((at, tuple(chance.randrange(max(0, count - 2), count) for count in counts)))
                    counts[at] += 1
                steps = tuple(steps)
                least = [least for least in range(1, 201) if is_tidy(size, steps, least)][0]
                values = values_of(parting, (NIL,) * size, *starts, steps)
                taken = [told[2:] for told in values]
                for told, part in zip(taken, box):
                    self.assertTrue(all(abs(value) <= factor * part for value in told))
                counts, share = [1] * size, Fraction(1)
                for count in range(len(steps) + 1):
                    if count % (2 * least) == 0:
                        share = factor ** (count // (2 * least))
                    for at in range(size):
                        self.assertLessEqual(abs(values[at][counts[at]]), share * box[at])
                    if count < len(steps):
                        counts[steps[count][0]] += 1

    def test_step_bound_against_guesses(self):
        """Point 22: measured by the box the solution is at most the bound times the step from the next guess."""
        checked = 0
        for at, (rows, parting) in enumerate(chosen_partings()):
            amounts = boxing_amounts(parting)
            if at % 3 or amounts is None:
                continue
            size = len(rows)
            bound, box = number(step_bound(parting, amounts)), [number(part) for part in amounts]
            for seed in range(4):
                right, guess = row_of(made_row(size, seed)), row_of(made_row(size, seed + 9))
                found, following = solution(parting[0], right), step(parting, right, guess)
                far = max(abs(number(one) - number(other)) / part for one, other, part in zip(found, following, box))
                gone = max(abs(number(one) - number(other)) / part for one, other, part in zip(following, guess, box))
                self.assertLessEqual(far, bound * gone)
                checked += 1
        self.assertGreater(checked, 60)


class Staying(unittest.TestCase):
    def test_round_by_round(self):
        checked = 0
        for at, (rows, parting) in enumerate(chosen_partings()):
            found = staying_round(parting)
            self.assertIs(found is None, growing_contents(parting) is None)
            if found is None:
                continue
            size = len(rows)
            older, newer, steps = found
            contents = [number(part) for part in older]
            self.assertTrue(all(part >= 0 for part in contents) and any(contents))
            self.assertTrue(all(reached >= part for reached, part in zip(sizes_times(rows, contents), contents)))
            self.assertEqual(newer, row_of([-part for part in contents]))
            self.assertEqual(steps, self.told_steps(rows))
            self.assertEqual([taken for taken, _ in steps], [k // 2 for k in range(2 * size)])
            rounds = 4 if at % 5 == 0 else 2
            gone = tuple((taken, tuple(pick + 2 * turn for pick in picks))
                         for turn in range(rounds) for taken, picks in steps)
            self.assertIs(is_late(size, gone), True)
            self.assertIs(is_tidy(size, gone, 2 * size + 1), True)
            values = values_of(parting, (NIL,) * size, older, newer, gone)
            for told, part in zip(values, contents):
                self.assertEqual(len(told), 2 + 2 * rounds)
                self.assertTrue(all(value >= part for value in told[0::2]))
                self.assertTrue(all(value <= -part for value in told[1::2]))
            lasts = row_of([told[-1] for told in values])
            self.assertEqual(late_run(parting, (NIL,) * size, older, newer, gone), lasts)
            checked += 1
        self.assertGreater(checked, 100)

    def told_steps(self, rows):
        """The words of point 21."""
        found = []
        for at, row in enumerate(rows):
            pairs = [(2, 3) if j < at else (0, 1) for j in range(len(row))]
            found.append((at, tuple(pair[0] if part >= 0 else pair[1] for pair, part in zip(pairs, row))))
            found.append((at, tuple(pair[1] if part >= 0 else pair[0] for pair, part in zip(pairs, row))))
        return tuple(found)

    def test_by_name(self):
        self.assertIsNone(staying_round(parting=(one_table(2), one_table(2))))
        found = staying_round(parting=parting_for(single(-1)))
        self.assertEqual(found, (row_of([1]), row_of([-1]), ((0, (1,)), (0, (0,)))))
        self.assertEqual(staying_round(parting_for(single(3)))[2], ((0, (0,)), (0, (1,))))


if __name__ == "__main__":
    unittest.main()
