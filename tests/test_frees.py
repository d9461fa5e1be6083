"""Stage 8: free parts, or a table of trees for all roots."""

import unittest
from itertools import permutations, product

from rootparts.frees import find_free, find_table, is_free, is_table, roots_of, served_roots
from rootparts.trees import find_tree
from rootparts.webs import with_tie
from tests.samples import (
    KITE, PATH, RING, STAR, all_ties, bare, every_web, full, mutants, odd_values, path, ring, sampled_webs, split_sizes,
    star, start, told_pieces, told_tree,
)

SMALL = [web for n in range(1, 5) for web in every_web(n)]
FIVE = every_web(5)[::7] + [bare(5), full(5), ring(5), path(5), star(5), KITE]


def both(webs):
    return [(web, sizes) for web in webs for k in (1, 2, 3) for sizes in split_sizes(web[0], k)]


def told_free(web, sizes, dealing):
    """Whether the dealing to as many roots is free parts."""
    for i, size in enumerate(sizes):
        lot = tuple(place for place, part in enumerate(dealing) if part == i)
        if len(lot) != size or len(told_pieces(web, lot)) != 1:
            return False
    return True


def every_free(web, sizes):
    return [dealing for dealing in product(range(len(sizes)), repeat=web[0]) if told_free(web, sizes, dealing)]


def told_table(web, sizes, value):
    """Whether the dict is a table."""
    keys = list(permutations(range(web[0]), len(sizes)))
    if sorted(map(repr, value)) != sorted(map(repr, keys)):
        return False
    return all(told_tree(web, (roots, sizes), start(web, (roots, sizes)), value[roots]) for roots in keys)


class FreePartsOrTables(unittest.TestCase):
    def check(self, web, sizes):
        dealings = every_free(web, sizes)
        free, table = find_free(web, sizes), find_table(web, sizes)
        self.assertIs(free is None, table is not None, (web, sizes))
        self.assertIs(free is not None, len(dealings) > 0, (web, sizes))
        if free is not None:
            self.assertIn(repr(free), list(map(repr, dealings)))
            self.assertIs(is_free(web, sizes, free), True)
        else:
            self.assertIsInstance(table, dict)
            self.assertTrue(told_table(web, sizes, table), (web, sizes, table))
            self.assertIs(is_table(web, sizes, table), True)
        return free is not None

    def test_small_webs(self):
        told = [self.check(web, sizes) for web, sizes in both(SMALL)]
        self.assertGreater(min(told.count(True), told.count(False)), 50)

    def test_webs_of_five_places(self):
        told = [self.check(web, sizes) for web, sizes in both(FIVE)]
        self.assertGreater(min(told.count(True), told.count(False)), 50)

    def test_one_part_and_as_many_parts_as_places(self):
        self.assertEqual([find_free(bare(1), (1,)), find_table(bare(1), (1,))], [(0,), None])
        self.assertEqual([find_free(RING, (4,)), find_free((4, ((0, 1),)), (4,))], [(0, 0, 0, 0), None])
        self.assertEqual(sorted(find_table(bare(2), (2,))), [(0,), (1,)])
        self.assertEqual(sorted(find_free(bare(3), (1, 1, 1))), [0, 1, 2])
        self.assertIs(find_table(bare(3), (1, 1, 1)), None)

    def test_somewhat_beyond_the_limits(self):
        for web in (bare(6), ring(6), star(7), full(6)):
            self.check(web, (2, 2, web[0] - 4))
            self.check(web, (1, 1, 2, web[0] - 4))

    def test_free_parts_stay_with_a_further_tie_and_tables_with_a_tie_less(self):
        for web, sizes in both(FIVE)[::4]:
            free, table = find_free(web, sizes), find_table(web, sizes)
            for a, b in all_ties(web[0]):
                if free is not None:
                    self.assertIs(is_free(with_tie(web, a, b), sizes, free), True)
                else:
                    less = (web[0], tuple(tie for tie in web[1] if tie != (a, b)))
                    self.assertIs(is_table(less, sizes, table), True)


class IsFree(unittest.TestCase):
    def test_all_dealings_of_small_webs(self):
        for web, sizes in both(SMALL[::2]):
            for dealing in product(range(len(sizes)), repeat=web[0]):
                self.assertIs(is_free(web, sizes, dealing), told_free(web, sizes, dealing), (web, sizes, dealing))

    def test_sizes_are_those_of_their_own_parts(self):
        self.assertIs(is_free(PATH, (1, 3), (0, 1, 1, 1)), True)
        self.assertIs(is_free(PATH, (1, 3), (1, 0, 0, 0)), False)
        self.assertIs(is_free(PATH, (3, 1), (1, 0, 0, 0)), True)
        self.assertIs(is_free(PATH, (2, 2), (0, 1, 0, 1)), False)

    def test_other_numbers(self):
        for value in [(0, 2, 2, 2), (0, -1, -1, -1), (0, 1, 1, 10 ** 99), (0, 1, 1), (0, 1, 1, 1, 1), [0, 1, 1, 1]]:
            self.assertIs(is_free(PATH, (1, 3), value), False, value)

    def test_bools_are_no_integers(self):
        for value in [(False, 1, 1, 1), (0, True, 1, 1), (0, 1, 1, True)]:
            self.assertIs(is_free(PATH, (1, 3), value), False, value)

    def test_odd_values_and_changed_parts(self):
        for web, sizes in [(RING, (2, 2)), (KITE, (2, 1, 2)), (STAR, (1, 3)), (bare(2), (1, 1)), (full(1), (1,))]:
            right = set(map(repr, every_free(web, sizes)))
            for value in odd_values() + mutants(find_free(web, sizes)):
                self.assertIs(is_free(web, sizes, value), repr(value) in right, repr(value)[:80])


class IsTable(unittest.TestCase):
    def refused(self, web, sizes, value):
        self.assertIs(is_table(web, sizes, value), False, repr(value)[:200])

    def test_a_key_left_out_or_put_in(self):
        for web, sizes in [(STAR, (2, 2)), (bare(3), (1, 2)), (bare(3), (3,)), (bare(4), (1, 1, 2))]:
            table = find_table(web, sizes)
            for roots in table:
                self.refused(web, sizes, {key: tree for key, tree in table.items() if key != roots})
                tree = table[roots]
                for key in [roots + (0,), roots[:-1], roots[:-1] + (web[0],), (0, 0), (0, 0, 0), None, "a", 0, ((),)]:
                    self.refused(web, sizes, {**table, key: tree})
                    self.refused(web, sizes, {**{k: t for k, t in table.items() if k != roots}, key: tree})

    def test_keys_turned(self):
        table = find_table(STAR, (2, 2))
        turned = {key[::-1]: tree for key, tree in table.items()}
        self.assertIs(is_table(STAR, (2, 2), turned), told_table(STAR, (2, 2), turned))
        # In a path with a single place beside it the trees of turned roots show other things.
        web = (4, ((0, 1), (1, 2)))
        table = find_table(web, (2, 2))
        turned = {key[::-1]: tree for key, tree in table.items()}
        self.assertIs(told_table(web, (2, 2), turned), False)
        self.refused(web, (2, 2), turned)

    def test_trees_exchanged(self):
        web = (4, ((0, 1), (1, 2)))
        table = find_table(web, (2, 2))
        told = []
        for one, other in permutations(table, 2):
            changed = {**table, one: table[other], other: table[one]}
            told.append(told_table(web, (2, 2), changed))
            self.assertIs(is_table(web, (2, 2), changed), told[-1])
        self.assertIn(False, told)
        self.assertIn(True, told)

    def test_any_valid_tree(self):
        web = STAR
        table = find_table(web, (2, 2))
        for roots in table:
            for tree in [("short", 0), ("short", 1), ("full", 0), ("lost", 3), ("lost", 2), ("lost", 0)]:
                told = told_tree(web, (roots, (2, 2)), start(web, (roots, (2, 2))), tree)
                self.assertIs(is_table(web, (2, 2), {**table, roots: tree}), told, (roots, tree))

    def test_the_order_of_the_keys_means_nothing(self):
        table = find_table(bare(3), (1, 2))
        self.assertIs(is_table(bare(3), (1, 2), dict(list(table.items())[::-1])), True)

    def test_bools_in_keys_are_no_integers(self):
        table = find_table(bare(2), (2,))
        self.assertIs(is_table(bare(2), (2,), table), True)
        self.refused(bare(2), (2,), {(False,): table[(0,)], (1,): table[(1,)]})
        self.refused(bare(2), (2,), {(0,): table[(0,)], (True,): table[(1,)]})
        self.refused(bare(2), (2,), {(0,): ("short", False), (1,): table[(1,)]})

    def test_tables_of_other_webs_and_sizes(self):
        table = find_table(STAR, (2, 2))
        for web, sizes in [(RING, (2, 2)), (STAR, (1, 3)), (STAR, (3, 1)), (STAR, (4,)), (PATH, (2, 2)), (full(5), (2, 3))]:
            self.refused(web, sizes, table)
        for web, sizes in both(SMALL[::5]):
            if web[0] == 4 and len(sizes) == 2:
                self.assertIs(is_table(web, sizes, table), told_table(web, sizes, table), (web, sizes))

    def test_odd_values_and_changed_tables(self):
        for web, sizes in [(bare(2), (2,)), (bare(3), (1, 2)), ((3, ((0, 1),)), (3,))]:
            table = find_table(web, sizes)
            self.assertIs(is_table(web, sizes, table), True)
            told = 0
            for value in odd_values() + mutants(table):
                right = isinstance(value, dict) and told_table(web, sizes, value)
                self.assertIs(is_table(web, sizes, value), right, repr(value)[:200])
                told += right
            self.assertGreater(told, 0)

    def test_no_table_where_there_are_free_parts(self):
        for web, sizes in both(SMALL[::3]):
            if every_free(web, sizes):
                trees = {roots: find_tree(web, (roots, sizes)) for roots in permutations(range(web[0]), len(sizes))}
                self.refused(web, sizes, trees)


class ServedRoots(unittest.TestCase):
    def told(self, web, sizes):
        served = set()
        for dealing in every_free(web, sizes):
            lots = [[place for place, part in enumerate(dealing) if part == i] for i in range(len(sizes))]
            served.update(product(*lots))
        return sorted(served)

    def test_all_dealings(self):
        for web, sizes in both(SMALL + FIVE[::3] + sampled_webs(6, 4, 2)):
            self.assertEqual(repr(served_roots(web, sizes)), repr(self.told(web, sizes)), (web, sizes))

    def test_a_firm_web_serves_all_roots(self):
        self.assertEqual(served_roots(full(5), (2, 2, 1)), list(permutations(range(5), 3)))
        self.assertEqual(served_roots(ring(5), (2, 3)), list(permutations(range(5), 2)))
        self.assertEqual(served_roots(bare(1), (1,)), [(0,)])
        self.assertEqual(served_roots(bare(2), (2,)), [])


class RootsOf(unittest.TestCase):
    def test_all_dealings(self):
        for n in range(1, 6):
            for k in range(1, min(n, 4) + 1):
                for dealing in product(range(k), repeat=n):
                    if len(set(dealing)) == k:
                        told = tuple(min(p for p in range(n) if dealing[p] == i) for i in range(k))
                        self.assertEqual(repr(roots_of(dealing, k)), repr(told))

    def test_free_parts_are_parts_for_their_roots(self):
        for web, sizes in both(FIVE[::5]):
            free = find_free(web, sizes)
            if free is not None:
                self.assertIn(roots_of(free, len(sizes)), served_roots(web, sizes))
