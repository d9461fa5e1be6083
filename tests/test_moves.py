"""Stage 9: standings, rows of moves, or shut sets."""

import unittest
from itertools import permutations, product
from random import Random

from rootparts.moves import find_row, find_shut, is_row, is_shut, is_standing, moves_of, standings
from rootparts.trees import find_parts
from rootparts.webs import with_tie
from tests.samples import (
    KITE, PATH, RING, STAR, all_ties, bare, every_web, full, grid, mutants, odd_values, path, ring, sampled_webs, star,
    told_pieces, two_sides,
)

WIDE = ((1, 3), (1, 3))
TIGHT = ((2, 2), (2, 2))


def told_standing(web, roots, bounds, dealing):
    """Whether the dealing to as many roots is a standing."""
    for i, (root, (low, high)) in enumerate(zip(roots, bounds)):
        lot = tuple(place for place, part in enumerate(dealing) if part == i)
        if root not in lot or not low <= len(lot) <= high or len(told_pieces(web, lot)) != 1:
            return False
    return True


def every_standing(web, roots, bounds):
    return [d for d in product(range(len(roots)), repeat=web[0]) if told_standing(web, roots, bounds, d)]


def are_a_move(one, other):
    return sum(i != j for i, j in zip(one, other)) == 1


def told_steps(all_standings, standing):
    """The fewest moves to each standing that is reached at all, found by widening a ring of standings."""
    steps = {}
    edge = [standing]
    while edge:
        steps.update(dict.fromkeys(edge, max(steps.values(), default=-1) + 1))
        edge = [d for d in all_standings if d not in steps and any(are_a_move(s, d) for s in edge)]
    return steps


def told_row(all_standings, standing, other, value):
    """Whether the tuple is a row."""
    if not value or not all(item in all_standings for item in value) or (value[0], value[-1]) != (standing, other):
        return False
    return all(are_a_move(one, after) for one, after in zip(value, value[1:]))


def told_shut(all_standings, standing, other, value):
    """Whether the tuple is a shut set."""
    if sorted(set(value)) != list(value) or not set(value) <= set(all_standings):
        return False
    if standing not in value or other in value:
        return False
    return not any(are_a_move(one, out) for one in value for out in all_standings if out not in value)


def every_bounds(n, k, draw):
    """Wide and narrow bounds, and bounds that are wider than the web."""
    even = tuple((n // k, n // k + (1 if n % k else 0)) for _ in range(k))
    out = [((1, n),) * k, even, ((1, n + 7),) * k, ((2, max(2, n - 2)),) * k]
    for _ in range(2):
        ends = [sorted((draw.randint(1, n), draw.randint(1, n))) for _ in range(k)]
        out.append(tuple(tuple(both) for both in ends))
    return out


def every_case(webs, seed):
    draw = Random(seed)
    out = []
    for web in webs:
        for k in range(1, min(3, web[0]) + 1):
            for bounds in every_bounds(web[0], k, draw):
                out.append((web, tuple(draw.sample(range(web[0]), k)), bounds))
    return out


WEBS = [web for n in range(1, 5) for web in every_web(n)[::3 if n == 4 else 1]]
WEBS += sampled_webs(5, 15, 5) + sampled_webs(6, 15, 6)
WEBS += [bare(6), full(6), ring(6), path(6), star(6), grid(2, 3), two_sides(2, 4), two_sides(3, 3), KITE]
CASES = every_case(WEBS, 9)


class Standings(unittest.TestCase):
    def test_against_all_dealings(self):
        many = 0
        for web, roots, bounds in CASES:
            told = every_standing(web, roots, bounds)
            self.assertEqual(repr(standings(web, roots, bounds)), repr(told), (web, roots, bounds))
            many += len(told)
        self.assertGreater(many, 1000)

    def test_one_root(self):
        self.assertEqual(standings(RING, (2,), ((1, 4),)), [(0, 0, 0, 0)])
        self.assertEqual(standings(RING, (2,), ((4, 4),)), [(0, 0, 0, 0)])
        self.assertEqual(standings(RING, (2,), ((1, 3),)), [])
        self.assertEqual(standings(bare(2), (0,), ((1, 2),)), [])
        self.assertEqual(standings(bare(1), (0,), ((1, 1),)), [(0,)])

    def test_tight_bounds_give_the_parts_of_a_deal(self):
        for web in WEBS[::4]:
            for sizes in [(1, web[0] - 1), (2, web[0] - 2)]:
                if min(sizes) > 0:
                    told = standings(web, (0, 1), tuple((size, size) for size in sizes))
                    self.assertIs(len(told) > 0, find_parts(web, ((0, 1), sizes)) is not None)

    def test_standings_of_all_dealings(self):
        for web, roots, bounds in CASES[::12]:
            for dealing in product(range(len(roots)), repeat=web[0]):
                told = told_standing(web, roots, bounds, dealing)
                self.assertIs(is_standing(web, roots, bounds, dealing), told, (web, roots, bounds, dealing))

    def test_bounds_are_met_at_both_ends(self):
        for low, high, told in [(3, 3, True), (1, 3, True), (3, 9, True), (1, 2, False), (4, 4, False), (1, 1, False)]:
            self.assertIs(is_standing(RING, (0, 2), ((low, high), (1, 1)), (0, 0, 1, 0)), told)
            self.assertIs(is_standing(RING, (2, 0), ((1, 1), (low, high)), (1, 1, 0, 1)), told)

    def test_each_root_is_in_its_part(self):
        self.assertIs(is_standing(RING, (0, 2), WIDE, (1, 1, 0, 1)), False)
        self.assertIs(is_standing(RING, (2, 0), WIDE, (1, 1, 0, 1)), True)
        self.assertIs(is_standing(RING, (0, 1), WIDE, (0, 0, 1, 0)), False)

    def test_odd_values_and_changed_standings(self):
        for web, roots, bounds in [(RING, (0, 2), WIDE), (KITE, (4, 0, 1), ((1, 3),) * 3), (full(2), (1, 0), ((1, 1),) * 2)]:
            told = every_standing(web, roots, bounds)
            right = set(map(repr, told))
            for value in odd_values() + [value for dealing in told[:2] for value in mutants(dealing)]:
                self.assertIs(is_standing(web, roots, bounds, value), repr(value) in right, repr(value)[:80])

    def test_bools_are_no_integers(self):
        for value in [(0, 0, True, 0), (False, 0, 1, 0), (0, 0, 1, False)]:
            self.assertIs(is_standing(RING, (0, 2), WIDE, value), False)


class Moves(unittest.TestCase):
    def test_against_all_dealings(self):
        many = 0
        for web, roots, bounds in CASES:
            told = every_standing(web, roots, bounds)
            for standing in told:
                moves = [other for other in told if are_a_move(standing, other)]
                self.assertEqual(repr(moves_of(web, roots, bounds, standing)), repr(moves), (web, roots, bounds))
                many += len(moves)
        self.assertGreater(many, 2000)

    def test_no_moves(self):
        self.assertEqual(moves_of(RING, (0,), ((1, 4),), (0, 0, 0, 0)), [])
        self.assertEqual(moves_of(RING, (0, 2), TIGHT, (0, 0, 1, 1)), [])
        self.assertEqual(moves_of(PATH, (0, 3), WIDE, (0, 0, 1, 1)), [(0, 0, 0, 1), (0, 1, 1, 1)])


class RowsOrShutSets(unittest.TestCase):
    def check(self, case, told, steps, standing, other):
        web, roots, bounds = case
        row = find_row(web, roots, bounds, standing, other)
        shut = find_shut(web, roots, bounds, standing, other)
        self.assertIs(row is None, shut is not None, (case, standing, other))
        self.assertIs(row is not None, other in steps, (case, standing, other))
        if row is not None:
            self.assertIsInstance(row, tuple)
            self.assertTrue(told_row(told, standing, other, row), (case, row))
            self.assertEqual(len(row), steps[other] + 1, (case, row))
            self.assertIs(is_row(web, roots, bounds, standing, other, row), True)
        else:
            self.assertIsInstance(shut, tuple)
            self.assertTrue(told_shut(told, standing, other, shut), (case, shut))
            self.assertIs(is_shut(web, roots, bounds, standing, other, shut), True)
        return row is not None

    def test_each_two_standings(self):
        both = []
        for case in CASES:
            told = every_standing(*case)
            for standing in told[::1 + len(told) // 3]:
                steps = told_steps(told, standing)
                for other in told[::1 + len(told) // 6]:
                    both.append(self.check(case, told, steps, standing, other))
        self.assertGreater(min(both.count(True), both.count(False)), 100)

    def test_a_standing_and_itself(self):
        for web, roots, bounds in CASES[::3]:
            for standing in every_standing(web, roots, bounds)[::5]:
                self.assertEqual(find_row(web, roots, bounds, standing, standing), (standing,))
                self.assertIs(find_shut(web, roots, bounds, standing, standing), None)
                self.assertIs(is_row(web, roots, bounds, standing, standing, (standing,)), True)
                self.assertIs(is_row(web, roots, bounds, standing, standing, (standing, standing)), False)
                self.assertIs(is_shut(web, roots, bounds, standing, standing, (standing,)), False)

    def test_rows_stay_with_a_further_tie(self):
        for web, roots, bounds in CASES[::25]:
            told = every_standing(web, roots, bounds)
            row = find_row(web, roots, bounds, told[0], told[-1]) if told else None
            if row is not None:
                for a, b in all_ties(web[0]):
                    self.assertIs(is_row(with_tie(web, a, b), roots, bounds, told[0], told[-1], row), True)

    def test_somewhat_beyond_the_limits(self):
        for case in [(ring(8), (0, 4), ((1, 8),) * 2), (grid(2, 4), (0, 3, 4, 7), ((1, 8),) * 4)]:
            told = every_standing(*case)
            self.assertEqual(standings(*case), told)
            self.check(case, told, told_steps(told, told[0]), told[0], told[-1])


class IsRow(unittest.TestCase):
    CASE = (grid(2, 3), (0, 5), ((1, 5), (1, 5)))

    def test_standings_left_out_doubled_exchanged_turned(self):
        told = every_standing(*self.CASE)
        first, last = told[0], told[-1]
        row = find_row(*self.CASE, first, last)
        self.assertGreater(len(row), 3)
        values = [row[::-1], row + row, row[::-1] + row, row + row[-2::-1], row[:1], row[-1:], (), list(row)]
        for at in range(len(row)):
            values += [row[:at] + row[at + 1:], row[:at] + (row[at],) + row[at:], row[:at] + (list(row[at]),) + row[at + 1:]]
            values += [row[:at] + (other,) + row[at + 1:] for other in told]
            # There and back again is a detour that a row may make.
            values += [row[:at + 1] + (other,) + row[at:] for other in told]
            for to in range(at):
                changed = list(row)
                changed[at], changed[to] = row[to], row[at]
                values.append(tuple(changed))
        rights = 0
        for value in values:
            right = isinstance(value, tuple) and told_row(told, first, last, value)
            self.assertIs(is_row(*self.CASE, first, last, value), right, value)
            rights += right
            self.assertIs(is_row(*self.CASE, last, first, value), isinstance(value, tuple) and told_row(told, last, first, value))
        self.assertGreater(rights, len(row))

    def test_standings_beyond_the_bounds(self):
        first, last = (0, 0, 1, 1), (0, 1, 1, 0)
        over = (first, (0, 0, 1, 0), last)
        self.assertIs(is_row(RING, (0, 2), WIDE, first, last, over), True)
        self.assertIs(is_row(RING, (0, 2), TIGHT, first, last, over), False)
        self.assertIs(is_row(RING, (0, 2), WIDE, first, last, (first, last)), False)

    def test_odd_values_and_changed_rows(self):
        first, last = (0, 0, 1, 0), (0, 1, 1, 1)
        told = every_standing(RING, (0, 2), WIDE)
        row = find_row(RING, (0, 2), WIDE, first, last)
        for value in odd_values() + mutants(row):
            right = isinstance(value, tuple) and value and all(isinstance(item, tuple) for item in value)
            right = right and "True" not in repr(value) and "False" not in repr(value)
            right = bool(right and told_row(told, first, last, value))
            self.assertIs(is_row(RING, (0, 2), WIDE, first, last, value), right, repr(value)[:100])

    def test_bools_are_no_integers(self):
        first, last = (0, 0, 1, 0), (0, 1, 1, 1)
        row = find_row(RING, (0, 2), WIDE, first, last)
        for at, item in enumerate(row):
            changed = row[:at] + ((False,) + item[1:],) + row[at + 1:]
            self.assertEqual(changed, row)
            self.assertIs(is_row(RING, (0, 2), WIDE, first, last, changed), False)


class IsShut(unittest.TestCase):
    def test_all_sets_of_standings(self):
        rights = 0
        for case in [(RING, (0, 2), WIDE), (RING, (0, 2), TIGHT), (STAR, (1, 2), WIDE), (path(5), (0, 4), ((2, 3), (2, 3)))]:
            told = every_standing(*case)
            for chosen in product((False, True), repeat=len(told)):
                value = tuple(standing for standing, put in zip(told, chosen) if put)
                for standing, other in product(told, repeat=2):
                    right = told_shut(told, standing, other, value)
                    self.assertIs(is_shut(*case, standing, other, value), right, (case, standing, other, value))
                    rights += right
        self.assertGreater(rights, 0)

    def case_of_two_islands(self):
        """Standings in two sets, each of more than one, between which no moves lead."""
        case = ((6, ((0, 1), (0, 4), (1, 2), (1, 3), (2, 3), (3, 5), (4, 5))), (0, 3), ((2, 4), (2, 4)))
        for web, roots, bounds in [case] + CASES:
            told = every_standing(web, roots, bounds)
            for standing in told:
                steps = told_steps(told, standing)
                if 2 <= len(steps) <= len(told) - 2:
                    other = [item for item in told if item not in steps][0]
                    return (web, roots, bounds), told, standing, other
        return None

    def test_standings_left_out_doubled_exchanged_turned(self):
        case, told, standing, other = self.case_of_two_islands()
        shut = find_shut(*case, standing, other)
        self.assertGreater(len(shut), 1)
        values = [shut[::-1], shut + shut, tuple(told), (standing,), (), list(shut), tuple(map(list, shut)), dict.fromkeys(shut)]
        for at in range(len(shut)):
            values += [shut[:at] + shut[at + 1:], shut[:at] + (shut[at],) + shut[at:]]
            values += [shut[:at] + (item,) + shut[at + 1:] for item in told]
            values += [tuple(sorted(shut + (item,))) for item in told]
        for value in values:
            right = isinstance(value, tuple) and all(isinstance(item, tuple) for item in value)
            right = right and told_shut(told, standing, other, value)
            self.assertIs(is_shut(*case, standing, other, value), right, value)
        self.assertIs(is_shut(*case, other, standing, shut), False)
        rest = tuple(sorted(told_steps(told, other)))
        self.assertIs(is_shut(*case, other, standing, rest), True)
        self.assertIs(is_shut(*case, standing, other, rest), False)

    def test_a_shut_set_may_hold_more_than_is_reached(self):
        # Three standings, no two of them a move apart: any lot of them is closed.
        case = (full(4), (0, 1), TIGHT)
        one, other = every_standing(*case)
        self.assertIs(is_shut(*case, one, other, (one,)), True)
        case = (full(4), (0,), ((1, 4),))
        self.assertEqual(len(every_standing(*case)), 1)
        case = (full(5), (0, 1), ((2, 2), (3, 3)))
        one, two, three = every_standing(*case)
        self.assertIs(is_shut(*case, one, three, (one, two)), True)
        self.assertIs(is_shut(*case, one, three, (two, one)), False)
        self.assertIs(is_shut(*case, one, three, (one, two, three)), False)
        self.assertIs(is_shut(*case, one, three, (two,)), False)

    def test_odd_values_and_changed_shut_sets(self):
        case = (full(5), (0, 1), ((2, 2), (3, 3)))
        one, two, three = told = every_standing(*case)
        right = [repr(value) for many in (1, 2) for value in permutations(told, many) if told_shut(told, one, three, value)]
        for value in odd_values() + mutants((one,)) + mutants((one, two)):
            self.assertIs(is_shut(*case, one, three, value), repr(value) in right, repr(value)[:100])
