"""Stage 3: states, rooms, parts or trees of cases."""

import unittest
from itertools import permutations, product
from random import Random

from rootparts.deals import is_parts
from rootparts.trees import find_parts, find_tree, first_state, is_tree, leaves, room_of
from rootparts.webs import with_tie
from tests.samples import (
    GREAT, KITE, PATH, RING, STAR, all_ties, bare, every_deal, every_web, full, grid, mutants, odd_values, path,
    ring, sampled_webs, served_deals, split_sizes, start, star, told_parts, told_pieces, told_tree, two_sides,
)

SMALL = [web for n in range(1, 5) for web in every_web(n)]
SPLIT = (4, ((0, 3), (1, 2)))


def told_leaves(tree):
    """The leaves, by the words that stand at their beginnings."""
    text = repr(tree)
    return sum(text.count(repr(word)) for word in ("full", "short", "lost"))


class States(unittest.TestCase):
    def test_first_state(self):
        for n in range(1, 6):
            for deal in every_deal(n):
                self.assertEqual(repr(first_state(bare(n), deal)), repr(start(bare(n), deal)), deal)
        self.assertEqual(first_state(full(12), ((11, 0), (6, 6))), (1,) + (-1,) * 10 + (0,))
        self.assertEqual(first_state(RING, ((3, 1, 0, 2), (1, 1, 1, 1))), (2, 1, 3, 0))

    def test_room_of_in_all_states_of_small_webs(self):
        for n, roots in [(1, (0,)), (3, (1,)), (3, (2, 0)), (4, (0, 2)), (4, (3, 1, 0))]:
            k = len(roots)
            deal = (roots, (1,) * (k - 1) + (n - k + 1,))
            for web in every_web(n):
                for state in product(range(-1, k), repeat=n):
                    for i, root in enumerate(roots):
                        if state[root] == i:
                            lot = tuple(place for place in range(n) if state[place] in (-1, i))
                            told = [piece for piece in told_pieces(web, lot) if root in piece][0]
                            self.assertEqual(repr(room_of(web, deal, state, i)), repr(told), (web, state, i))

    def test_room_is_not_the_lot(self):
        # A place of the part that is not reached is not in the room, an open place that is reached is.
        self.assertEqual(room_of(path(5), ((0, 2), (3, 2)), (0, -1, 1, 0, -1), 0), (0, 1))
        self.assertEqual(room_of(path(5), ((0, 2), (3, 2)), (0, -1, 1, 0, -1), 1), (1, 2))
        self.assertEqual(room_of(full(12), ((5,), (12,)), (-1,) * 5 + (0,) + (-1,) * 6, 0), tuple(range(12)))


class PartsOrTrees(unittest.TestCase):
    def check(self, web, deal, served):
        parts, tree = find_parts(web, deal), find_tree(web, deal)
        self.assertIs(parts is None, tree is not None, (web, deal))
        self.assertIs(parts is not None, served, (web, deal))
        if served:
            self.assertTrue(told_parts(web, deal, parts), (web, deal, parts))
            self.assertIs(is_parts(web, deal, parts), True)
        else:
            self.assertTrue(told_tree(web, deal, start(web, deal), tree), (web, deal, tree))
            self.assertIs(is_tree(web, deal, tree), True)
            self.assertEqual(leaves(tree), told_leaves(tree))

    def test_all_deals_of_all_small_webs(self):
        for web in SMALL:
            served = {deal for k in range(1, web[0] + 1) for deal in served_deals(web, k)}
            for deal in every_deal(web[0]):
                self.check(web, deal, deal in served)

    def test_deals_of_webs_of_five_to_seven_places(self):
        # For each web and number of roots a few tuples of roots, with all sizes.
        draw = Random(1)
        both = [0, 0]
        for n, many in [(5, 60), (6, 30), (7, 12)]:
            for web in sampled_webs(n, many, n):
                for k in range(1, 5):
                    served = served_deals(web, k)
                    for _ in range(3):
                        roots = tuple(draw.sample(range(n), k))
                        for sizes in split_sizes(n, k):
                            self.check(web, (roots, sizes), (roots, sizes) in served)
                            both[(roots, sizes) in served] += 1
        self.assertGreater(min(both), 1000)

    def test_one_root_and_as_many_roots_as_places(self):
        self.assertEqual(find_parts(bare(1), ((0,), (1,))), (0,))
        self.assertIs(find_tree(bare(1), ((0,), (1,))), None)
        self.assertEqual(find_parts(full(12), ((7,), (12,))), (0,) * 12)
        self.check(bare(12), ((7,), (12,)), False)
        roots = (3, 0, 11, 5, 4, 8, 1, 2, 9, 6, 7, 10)
        self.check(bare(12), (roots, (1,) * 12), True)
        self.assertEqual(find_parts(bare(12), (roots, (1,) * 12)), tuple(roots.index(p) for p in range(12)))

    def test_great_webs(self):
        draw = Random(2)
        both = [0, 0]
        for web in GREAT:
            for k in range(1, 9):
                deal = (tuple(draw.sample(range(12), k)), draw.choice(split_sizes(12, k)))
                parts = find_parts(web, deal)
                self.check(web, deal, parts is not None)
                both[parts is not None] += 1
        self.assertGreater(min(both), 20)

    def test_somewhat_beyond_the_limits(self):
        self.check(full(14), ((0, 13, 5, 6), (4, 4, 3, 3)), True)
        self.check(two_sides(3, 11), ((3, 4, 5, 6), (4, 4, 3, 3)), False)
        self.check(grid(2, 7), ((0, 13, 3), (5, 5, 4)), find_parts(grid(2, 7), ((0, 13, 3), (5, 5, 4))) is not None)

    def test_parts_stay_with_a_further_tie_and_trees_with_a_tie_less(self):
        for web in sampled_webs(5, 12, 3):
            for deal in every_deal(5, 3)[::11]:
                parts, tree = find_parts(web, deal), find_tree(web, deal)
                for a, b in all_ties(5):
                    if parts is not None:
                        self.assertTrue(is_parts(with_tie(web, a, b), deal, parts))
                    else:
                        less = (5, tuple(tie for tie in web[1] if tie != (a, b)))
                        self.assertTrue(is_tree(less, deal, tree))


class IsTree(unittest.TestCase):
    def check(self, web, deal, value):
        told = told_tree(web, deal, start(web, deal), value)
        self.assertIs(is_tree(web, deal, value), told, (web, deal, repr(value)[:200]))
        return told

    def test_all_trees_of_one_part(self):
        for web in SMALL:
            n = web[0]
            for deal in every_deal(n):
                for word in ("full", "short", "lost", "cases", "wide"):
                    for at in range(-1, n + 1):
                        self.check(web, deal, (word, at))

    def test_all_cases_of_one_place(self):
        leaves_of = [(word, i) for word in ("full", "short", "lost") for i in range(3)]
        right = 0
        for web in every_web(3):
            for deal in [((0, 2), (1, 2)), ((0, 2), (2, 1)), ((2, 1), (1, 2)), ((1,), (3,))]:
                for p in range(-1, 4):
                    for pages in product(leaves_of, repeat=len(deal[0])):
                        right += self.check(web, deal, ("cases", p, pages))
        self.assertGreater(right, 30)

    def test_full(self):
        # Part 0, of size 1, is full once the place 1 or 2 is put to it.
        web, deal = full(4), ((0, 3), (1, 3))
        self.assertIs(is_tree(web, deal, ("full", 0)), False)
        shape = ("cases", 1, (("full", 0), ("cases", 2, (("full", 0), ("full", 1)))))
        self.assertIs(is_tree(web, deal, shape), False)
        self.assertIs(is_tree(STAR, ((0, 1), (1, 3)), ("cases", 2, (("full", 0), ("short", 1)))), True)
        self.assertIs(is_tree(STAR, ((0, 1), (1, 3)), ("cases", 2, (("full", 1), ("short", 1)))), False)
        self.assertIs(is_tree(STAR, ((0, 1), (2, 2)), ("cases", 2, (("full", 0), ("short", 1)))), False)

    def test_short_by_the_room_or_by_a_place_outside_of_it(self):
        self.assertIs(is_tree(PATH, ((0, 2), (3, 1)), ("short", 0)), True)
        self.assertIs(is_tree(PATH, ((0, 2), (2, 2)), ("short", 0)), False)
        # The room of part 1 is large enough, but the place 0 is put to it and not reached.
        web, deal = path(5), ((1, 2), (2, 3))
        self.assertIs(is_tree(web, deal, ("cases", 0, (("short", 1), ("short", 1)))), False)
        self.assertIs(is_tree(web, deal, ("cases", 3, (("short", 0), ("short", 1)))), False)
        told = ("cases", 3, (("short", 0), ("cases", 0, (("full", 0), ("short", 1)))))
        self.assertIs(is_tree(web, deal, told), False)
        deal = ((1, 2), (3, 2))
        told = ("cases", 3, (("short", 0), ("cases", 0, (("short", 0), ("short", 1)))))
        self.assertIs(is_tree(web, deal, told), True)
        self.assertIs(is_tree(web, deal, ("cases", 0, (("short", 0), ("short", 1)))), True)

    def test_lost(self):
        self.assertIs(is_tree(STAR, ((0, 1), (1, 3)), ("lost", 2)), True)
        self.assertIs(is_tree(STAR, ((0, 1), (2, 2)), ("lost", 2)), False)
        # A place that is put is not lost, nor one that only a part with enough places has in its room.
        self.assertIs(is_tree(STAR, ((0, 1), (1, 3)), ("lost", 0)), False)
        self.assertIs(is_tree(STAR, ((0, 1), (1, 3)), ("lost", 1)), False)
        self.assertIs(is_tree(STAR, ((0, 1), (1, 3)), ("lost", 3)), True)
        self.assertIs(is_tree(SPLIT, ((0,), (4,)), ("lost", 1)), True)
        self.assertIs(is_tree(SPLIT, ((0,), (4,)), ("lost", 3)), False)

    def test_cases_over_a_place_that_is_put(self):
        web, deal = STAR, ((0, 1), (1, 3))
        for p in (0, 1):
            self.assertIs(is_tree(web, deal, ("cases", p, (("short", 1), ("short", 1)))), False)
        for p in (2, 3):
            self.assertIs(is_tree(web, deal, ("cases", p, (("short", 1), ("short", 1)))), True)
        inner = ("cases", 2, (("short", 1), ("short", 1)))
        self.assertIs(is_tree(web, deal, ("cases", 2, (inner, inner))), False)
        self.assertIs(is_tree(web, deal, ("cases", 3, (inner, inner))), True)

    def test_pages(self):
        page = ("short", 1)
        for pages in [(), (page,), (page,) * 3, [page, page], {0: page, 1: page}, page, None, (page, None), ((page, page),)]:
            self.assertIs(is_tree(STAR, ((0, 1), (1, 3)), ("cases", 2, pages)), False, pages)
        self.assertIs(is_tree(STAR, ((0, 1), (1, 3)), ("cases", 2, (page, page))), True)

    def test_pages_in_their_order(self):
        web, deal = STAR, ((0, 1), (1, 3))
        self.assertIs(is_tree(web, deal, ("cases", 2, (("full", 0), ("short", 1)))), True)
        self.assertIs(is_tree(web, deal, ("cases", 2, (("short", 1), ("full", 0)))), False)

    def test_bools_are_no_numbers(self):
        web, deal = STAR, ((0, 1), (1, 3))
        self.assertIs(is_tree(web, deal, ("short", 1)), True)
        self.assertIs(is_tree(web, deal, ("short", True)), False)
        self.assertIs(is_tree(PATH, ((0, 2), (3, 1)), ("short", False)), False)
        self.assertIs(is_tree(web, deal, ("cases", 2, (("full", False), ("short", 1)))), False)
        # The place 1 is lost for the root 0, and open.
        self.assertIs(is_tree(bare(2), ((0,), (2,)), ("lost", 1)), True)
        self.assertIs(is_tree(bare(2), ((0,), (2,)), ("lost", True)), False)
        self.assertIs(is_tree(bare(2), ((0,), (2,)), ("cases", 1, (("short", 0),))), True)
        self.assertIs(is_tree(bare(2), ((0,), (2,)), ("cases", True, (("short", 0),))), False)

    def test_other_shapes(self):
        web, deal = STAR, ((0, 1), (1, 3))
        for value in [
            ["short", 1], ("short", 1, ()), ("short",), ("short", 1, 1), (1, "short"), "short", ("Short", 1), (b"short", 1),
            (("short",), 1), (["short"], 1), ({"short": 1}, 1), ("short", -1), ("short", 2), ("short", "1"), ("short", (1,)),
            ("short", [1]), ("short", {}), ("short", None), ("lost", -2), ("lost", 4), ("lost", 10 ** 99), (("short", 1),),
            ("cases", 2), ("cases", 2, (("full", 0), ("short", 1)), ()), ("cases", (("full", 0), ("short", 1)), 2),
        ]:
            self.assertIs(is_tree(web, deal, value), False, value)

    def test_where_there_are_parts_there_is_no_tree(self):
        trees = {find_tree(web, deal) for web in SMALL for deal in every_deal(web[0], 3)}
        for web in SMALL[::7]:
            for deal in every_deal(web[0], 3):
                if find_parts(web, deal) is not None:
                    for tree in trees:
                        self.assertIs(is_tree(web, deal, tree), False, (web, deal, tree))

    def test_trees_of_another_web_or_deal(self):
        trees = sorted({find_tree(web, deal) for web in every_web(4) for deal in every_deal(4, 3)} - {None}, key=repr)
        for web in (RING, PATH, STAR, SPLIT):
            for deal in every_deal(4, 3)[::3]:
                for tree in trees[::2]:
                    self.check(web, deal, tree)

    def test_told_trees_changed_at_one_place(self):
        tried = right = 0
        webs = [PATH, KITE, two_sides(2, 4), path(6), (6, ((0, 1), (1, 2), (1, 3), (2, 3), (3, 4), (3, 5)))]
        for web in webs:
            for deal in every_deal(web[0], 3)[::13]:
                tree = find_tree(web, deal)
                if tree is not None and leaves(tree) <= 6:
                    for value in mutants(tree)[::3]:
                        right += self.check(web, deal, value)
                        tried += 1
        self.assertGreater(tried, 10000)
        self.assertGreater(right, 100)

    def test_a_great_tree_spoilt_at_each_place(self):
        web, deal = two_sides(3, 6), ((3, 4, 5, 6), (3, 2, 2, 2))
        tree = find_tree(web, deal)
        self.assertGreater(leaves(tree), 10)
        for value in mutants(tree)[::29]:
            self.check(web, deal, value)

    def test_odd_values(self):
        for value in odd_values() + [find_parts(RING, ((0, 2), (2, 2))), RING, PATH, full(12)]:
            for web, deal in [(bare(1), ((0,), (1,))), (STAR, ((0, 1), (1, 3))), (bare(12), ((3, 4), (6, 6)))]:
                self.assertIs(is_tree(web, deal, value), False, repr(value)[:80])

    def test_a_value_with_very_many_equal_pages(self):
        # The pages go on beyond the open places, or stop at the last one with a wrong part.
        tree = ("full", 0)
        for p in range(5, 12):
            tree = ("cases", p, (tree,) * 5)
        deal = ((0, 1, 2, 3, 4), (2, 2, 2, 2, 4))
        self.assertIs(is_tree(full(12), deal, tree), False)
        tree = ("short", 0)
        for p in range(5, 12):
            tree = ("cases", p, (tree,) * 5)
        self.assertIs(is_tree(bare(12), deal, tree), True)
        for p in range(28):
            tree = ("cases", p % 12, (tree,) * 5)
        self.assertIs(is_tree(bare(12), deal, tree), False)


class Leaves(unittest.TestCase):
    def test_each_kind(self):
        for tree in [("full", 0), ("short", 3), ("lost", 11)]:
            self.assertEqual(leaves(tree), 1)

    def test_cases(self):
        one = ("cases", 2, (("full", 0), ("short", 1)))
        self.assertEqual(leaves(one), 2)
        self.assertEqual(leaves(("cases", 0, (one, ("lost", 1), one))), 5)
        self.assertEqual(leaves(("cases", 0, (("lost", 1),))), 1)
        tree = ("lost", 0)
        for p in range(7):
            tree = ("cases", p, (tree,) * 5)
        self.assertEqual(leaves(tree), 5 ** 7)

    def test_told_trees(self):
        for web in SMALL[::3]:
            for deal in every_deal(web[0], 3):
                tree = find_tree(web, deal)
                if tree is not None:
                    self.assertEqual(leaves(tree), told_leaves(tree))


class KnownWebs(unittest.TestCase):
    def test_rings_have_parts_for_two_roots(self):
        for n in range(3, 8):
            for roots in permutations(range(n), 2):
                for sizes in split_sizes(n, 2):
                    self.assertTrue(told_parts(ring(n), (roots, sizes), find_parts(ring(n), (roots, sizes))))

    def test_a_star_has_none_for_two_ends_with_sizes_above_one(self):
        self.assertIs(find_parts(star(7), ((1, 2), (3, 4))), None)
        self.assertEqual(find_parts(star(7), ((1, 2), (6, 1))), (0, 0, 1, 0, 0, 0, 0))
