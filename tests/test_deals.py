"""Stage 2: deals, parts, sizes and borders."""

import unittest
from copy import deepcopy
from itertools import permutations, product
from math import comb

from rootparts.deals import border, every_sizes, is_deal, is_parts, part_of
from tests.samples import (
    KITE, PATH, RING, STAR, bare, every_deal, every_web, full, mutants, odd_values, split_sizes, told_parts,
)


class IsDeal(unittest.TestCase):
    def test_all_deals_of_small_webs(self):
        for n in range(1, 6):
            for deal in every_deal(n):
                self.assertIs(is_deal(bare(n), deal), True, deal)
                self.assertIs(is_deal(full(n), deal), True, deal)

    def test_one_root(self):
        for n in range(1, 13):
            for root in range(n):
                self.assertIs(is_deal(bare(n), ((root,), (n,))), True)
                self.assertIs(is_deal(bare(n), ((root,), (n + 1,))), False)
                self.assertIs(is_deal(bare(n), ((root,), (n - 1,))), False)

    def test_as_many_roots_as_places(self):
        for n in range(1, 13):
            roots = tuple(range(n))
            self.assertIs(is_deal(bare(n), (roots, (1,) * n)), True, n)
            self.assertIs(is_deal(bare(n), (roots[::-1], (1,) * n)), True, n)
            self.assertIs(is_deal(bare(n), (roots + (n,), (1,) * (n + 1))), False, n)
            self.assertIs(is_deal(bare(n), (roots + (0,), (1,) * n + (0,))), False, n)

    def test_roots_in_any_order(self):
        for roots in permutations((0, 2, 3)):
            self.assertIs(is_deal(RING, (roots, (1, 1, 2))), True, roots)

    def test_a_root_twice(self):
        for roots in [(0, 0), (3, 3)]:
            self.assertIs(is_deal(RING, (roots, (2, 2))), False, roots)
        for roots in [(0, 1, 0), (0, 0, 1), (1, 0, 0)]:
            self.assertIs(is_deal(RING, (roots, (1, 1, 2))), False, roots)

    def test_a_root_that_is_no_place(self):
        for root in (4, 5, -1, -4, 10 ** 99, True, False, None, "0", (0,), [0], {}, {0: 0}):
            self.assertIs(is_deal(RING, ((root,), (4,))), False, root)
            self.assertIs(is_deal(RING, ((root, 2), (3, 1))), False, root)
            self.assertIs(is_deal(RING, ((2, root), (3, 1))), False, root)

    def test_sizes_that_are_none(self):
        for sizes in [
            (0, 4), (4, 0), (-1, 5), (5, -1), (2, 1), (3, 2), (4,), (1, 1, 2), (), (4, 0, 0), (1, 1), (True, 3), (3, True),
            (2, "2"), (None, 4), (2, (2,)), ([2], [2]), ({}, 4), (False, 4), (10 ** 99, 4 - 10 ** 99),
            [2, 2], {2: 2}, "22", None, 4, True,
        ]:
            self.assertIs(is_deal(RING, ((0, 2), sizes)), False, sizes)

    def test_more_or_fewer_sizes_than_roots(self):
        for roots, sizes in [((0,), (2, 2)), ((0,), ()), ((0, 1, 2), (2, 2)), ((0, 1), (1, 1, 2)), ((), (4,)), ((0, 1), (4,))]:
            self.assertIs(is_deal(RING, (roots, sizes)), False, (roots, sizes))

    def test_no_roots(self):
        for value in [((), ()), ((), (4,)), ((), (0,)), ([], []), ((), None)]:
            self.assertIs(is_deal(RING, value), False, value)

    def test_bools(self):
        web = (1, ())
        self.assertIs(is_deal(web, ((0,), (1,))), True)
        for value in [((False,), (1,)), ((0,), (True,)), ((False,), (True,)), (True, True), True, False]:
            self.assertIs(is_deal(web, value), False, value)
        self.assertIs(is_deal((2, ()), ((0, True), (1, 1))), False)
        self.assertIs(is_deal((2, ()), ((0, 1), (1, True))), False)

    def test_other_shapes(self):
        for value in [
            ((0, 2),), ((0, 2), (3, 1), ()), [(0, 2), (3, 1)], ([0, 2], (3, 1)), ((0, 2), [3, 1]), {(0, 2): (3, 1)},
            ((0, 2), (3, 1))[::-1], (((0, 2), (3, 1)),), "((0, 2), (3, 1))", (0, 4), ("02", (3, 1)), ({0: 2}, (4,)),
        ]:
            self.assertIs(is_deal(RING, value), False, value)

    def test_odd_values(self):
        for value in odd_values():
            for web in (bare(1), RING, full(12)):
                self.assertIs(is_deal(web, value), False, repr(value)[:80])

    def test_deals_changed_at_one_place(self):
        for n in (1, 2, 3, 4):
            deals = every_deal(n)
            right = {repr(deal) for deal in deals}
            for deal in deals[::n]:
                for value in mutants(deal):
                    self.assertIs(is_deal(full(n), value), repr(value) in right, (n, value))


class IsParts(unittest.TestCase):
    def check(self, web, deal):
        for dealing in product(range(len(deal[0])), repeat=web[0]):
            self.assertIs(is_parts(web, deal, dealing), told_parts(web, deal, dealing), (web, deal, dealing))

    def test_all_dealings_for_all_deals_of_small_webs(self):
        for n in (1, 2, 3):
            for web in every_web(n):
                for deal in every_deal(n):
                    self.check(web, deal)

    def test_all_dealings_of_some_webs_of_four_places(self):
        for web in (RING, PATH, STAR, bare(4), full(4), (4, ((0, 3), (1, 2)))):
            for deal in every_deal(4):
                if len(deal[0]) < 4:
                    self.check(web, deal)

    def test_one_root_and_as_many_roots_as_places(self):
        self.assertIs(is_parts(full(12), ((5,), (12,)), (0,) * 12), True)
        self.assertIs(is_parts(bare(12), ((5,), (12,)), (0,) * 12), False)
        roots = tuple(range(12))
        self.assertIs(is_parts(bare(12), (roots, (1,) * 12), roots), True)
        self.assertIs(is_parts(full(12), (roots, (1,) * 12), roots[::-1]), False)
        self.assertIs(is_parts(full(12), (roots[::-1], (1,) * 12), roots[::-1]), True)
        self.assertIs(is_parts(bare(1), ((0,), (1,)), (0,)), True)

    def test_failing_at_just_one_thing(self):
        deal = ((0, 4), (3, 2))
        self.assertIs(is_parts(KITE, deal, (0, 0, 0, 1, 1)), True)
        # The roots are in each other's parts.
        self.assertIs(is_parts(KITE, ((4, 0), (3, 2)), (0, 0, 0, 1, 1)), False)
        # One root is in another part.
        self.assertIs(is_parts(KITE, ((0, 1), (3, 2)), (0, 0, 0, 1, 1)), False)
        # A part has another size.
        self.assertIs(is_parts(KITE, ((0, 4), (2, 3)), (0, 0, 0, 1, 1)), False)
        self.assertIs(is_parts(KITE, deal, (0, 0, 1, 1, 1)), False)
        # A part does not hang: the last one, or the first one.
        self.assertIs(is_parts(KITE, deal, (0, 0, 1, 0, 1)), False)
        self.assertIs(is_parts(PATH, ((0, 1), (2, 2)), (0, 1, 1, 0)), False)
        self.assertIs(is_parts(PATH, ((1, 0), (2, 2)), (1, 0, 0, 1)), False)

    def test_numbers_of_no_part(self):
        for part in (2, 3, -1, -2, 10 ** 99, True, False, None, "0", "1", (), (1,), [1], {}):
            for at in range(4):
                value = (0, 0, 1, 1)[:at] + (part,) + (0, 0, 1, 1)[at + 1:]
                self.assertIs(is_parts(RING, ((0, 2), (2, 2)), value), False, value)

    def test_too_short_or_too_long(self):
        for value in [(), (0,), (0, 0, 1), (0, 1, 1), (0, 0, 1, 1, 1), (0, 0, 1, 1, 0), (0, 0, 1, 1, 0, 0, 1, 1)]:
            self.assertIs(is_parts(RING, ((0, 2), (2, 2)), value), False, value)

    def test_odd_values_and_changed_parts(self):
        deal = ((0, 2), (2, 2))
        right = {repr(value) for value in product((0, 1), repeat=4) if told_parts(RING, deal, value)}
        self.assertEqual(right, {"(0, 0, 1, 1)", "(0, 1, 1, 0)"})
        for value in odd_values() + mutants((0, 0, 1, 1)) + mutants((0, 1, 1, 0)) + [[0, 0, 1, 1], "0011"]:
            self.assertIs(is_parts(RING, deal, value), repr(value) in right, repr(value)[:80])


class PartOf(unittest.TestCase):
    def test_part_of(self):
        for k in (1, 2, 3):
            for n in (1, 2, 3, 4):
                for dealing in product(range(k), repeat=n):
                    for i in range(k):
                        told = tuple(place for place in range(n) if dealing[place] == i)
                        self.assertEqual(repr(part_of(dealing, i)), repr(told), (dealing, i))

    def test_an_empty_part_and_a_whole_one(self):
        self.assertEqual(part_of((1, 1, 1), 0), ())
        self.assertEqual(part_of((1,) * 12, 1), tuple(range(12)))


class EverySizes(unittest.TestCase):
    def test_all_n_and_k(self):
        for n in range(1, 13):
            for k in range(1, 13):
                told = every_sizes(n, k)
                self.assertIsInstance(told, list)
                self.assertEqual(repr(told), repr(split_sizes(n, k)), (n, k))
                self.assertEqual(len(told), comb(n - 1, k - 1), (n, k))
                self.assertEqual(told, sorted(told))

    def test_ends(self):
        self.assertEqual(every_sizes(1, 1), [(1,)])
        self.assertEqual(every_sizes(12, 1), [(12,)])
        self.assertEqual(every_sizes(12, 12), [(1,) * 12])
        self.assertEqual(every_sizes(1, 12), [])
        self.assertEqual(every_sizes(11, 12), [])

    def test_somewhat_beyond_the_limits(self):
        self.assertEqual(len(every_sizes(14, 5)), comb(13, 4))
        self.assertEqual(every_sizes(14, 14), [(1,) * 14])
        self.assertEqual(every_sizes(13, 14), [])
        self.assertEqual(every_sizes(0, 1), [])
        self.assertEqual(every_sizes(3, 0), [])
        self.assertEqual(every_sizes(0, 0), [()])

    def test_a_new_list_at_each_call(self):
        for n, k in [(4, 2), (2, 3), (3, 1), (12, 12)]:
            told = every_sizes(n, k)
            kept = list(told)
            told.append("more")
            told[0] = "other"
            self.assertEqual(every_sizes(n, k), kept)


class Border(unittest.TestCase):
    def test_small_webs(self):
        for n in (1, 2, 3, 4):
            for web in every_web(n)[::2]:
                for dealing in product(range(3), repeat=n):
                    told = tuple(tie for tie in web[1] if dealing[tie[0]] != dealing[tie[1]])
                    self.assertEqual(repr(border(web, dealing)), repr(told), (web, dealing))

    def test_no_tie_and_all_ties(self):
        for web in (RING, PATH, STAR, KITE, full(12), bare(12)):
            self.assertEqual(border(web, (0,) * web[0]), ())
            self.assertEqual(border(web, tuple(range(web[0]))), web[1])
        self.assertEqual(border((4, ((0, 1), (2, 3))), (0, 0, 1, 1)), ())
        self.assertEqual(border(RING, (0, 1, 0, 1)), RING[1])


class Arguments(unittest.TestCase):
    def test_no_call_changes_its_arguments(self):
        for value in odd_values() + [[[0, 2], [3, 1]], ([0, 2], [3, 1]), [0, 0, 1, 1], ({0: [1]}, [])]:
            kept = deepcopy(value)
            is_deal(RING, value)
            is_parts(RING, ((0, 2), (3, 1)), value)
            self.assertEqual(repr(value), repr(kept))
