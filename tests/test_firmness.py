"""Stage 5: firm webs and bars."""

import unittest
from itertools import permutations

from rootparts.cuts import find_cut, find_paper, is_cut
from rootparts.deals import is_deal
from rootparts.firmness import bar_of, find_bar, firmness, is_bar, is_firm
from rootparts.trees import find_parts, find_tree, is_tree
from tests.samples import (
    GREAT, KITE, PATH, RING, STAR, bare, every_deal, every_lot, every_web, full, grid, least_cut, mutants, odd_values,
    path, ring, sampled_webs, split_sizes, star, told_bar, told_cut, told_parts, two_sides,
)

SMALL = [web for n in range(1, 5) for web in every_web(n)]
MIDDLE = [web for n in range(5, 9) for web in sampled_webs(n, 25, n + 10)]


class Firm(unittest.TestCase):
    def check(self, web):
        least = least_cut(web)
        for k in range(1, 13):
            told = web[0] > k and (least is None or least >= k)
            self.assertIs(is_firm(web, k), told, (web, k))
        if web[0] >= 2:
            told = web[0] - 1 if least is None else least
            self.assertEqual(repr(firmness(web)), repr(told), web)

    def test_against_the_least_cut(self):
        for web in SMALL + every_web(5)[::3] + MIDDLE + GREAT[:8]:
            self.check(web)

    def test_known_webs(self):
        for n in range(3, 13):
            self.assertEqual(firmness(full(n)), n - 1)
            self.assertEqual(firmness(ring(n)), 2)
            self.assertEqual(firmness(path(n)), 1)
            self.assertEqual(firmness(star(n)), 1)
            self.assertEqual(firmness(bare(n)), 0)
        self.assertEqual([firmness(bare(2)), firmness(full(2))], [0, 1])
        self.assertEqual([firmness(two_sides(5, 7)), firmness(two_sides(6, 6)), firmness(grid(3, 4))], [5, 6, 2])

    def test_a_web_is_not_firm_for_as_many_as_it_has_places(self):
        for n in range(1, 12):
            self.assertIs(is_firm(full(n), n), False)
            self.assertIs(is_firm(full(n + 1), n), True)
        self.assertIs(is_firm(bare(1), 1), False)

    def test_somewhat_beyond_the_limits(self):
        self.assertEqual(firmness(bare(1)), 0)
        self.assertIs(is_firm(bare(4), 0), True)
        self.assertIs(is_firm(full(12), 12), False)
        self.assertIs(is_firm(full(13), 12), True)
        self.assertEqual([firmness(full(13)), firmness(ring(14))], [12, 2])


class Bars(unittest.TestCase):
    def check_bar(self, web, k, bar):
        self.assertTrue(is_deal(web, bar), (web, k, bar))
        self.assertTrue(told_bar(web, k, bar), (web, k, bar))
        self.assertIs(is_bar(web, k, bar), True)

    def check_no_parts(self, web, bar):
        self.assertIs(find_parts(web, bar), None)
        self.assertTrue(is_tree(web, bar, find_tree(web, bar)))

    def test_bars_of_all_cuts(self):
        for web in SMALL + MIDDLE[::4] + [grid(2, 5), star(12)]:
            for cut in every_lot(web[0])[:200]:
                if told_cut(web, cut):
                    for k in range(len(cut) + 1, min(web[0], 12)):
                        bar = bar_of(web, k, cut)
                        self.check_bar(web, k, bar)
                        self.assertTrue(set(cut) <= set(bar[0][:k - 1]), (web, k, cut, bar))

    def test_bars_have_no_parts(self):
        for web in SMALL + MIDDLE + GREAT:
            for k in range(1, 12):
                bar = find_bar(web, k)
                if bar is not None:
                    self.check_bar(web, k, bar)
                    self.check_no_parts(web, bar)

    def test_exactly_one_of_a_paper_and_a_bar(self):
        for web in SMALL + every_web(5)[::7] + MIDDLE + GREAT:
            for k in range(1, min(12, web[0])):
                paper, bar = find_paper(web, k), find_bar(web, k)
                self.assertIs(paper is None, bar is not None, (web, k))
                self.assertIs(is_firm(web, k), bar is None, (web, k))

    def test_where_there_is_a_paper_there_are_parts_for_every_deal(self):
        tried = 0
        for web in SMALL + MIDDLE[:50:3] + [ring(6), two_sides(3, 3), full(6)]:
            for k in range(1, min(web[0], 4)):
                if find_paper(web, k) is not None:
                    for roots in list(permutations(range(web[0]), k))[::5]:
                        for sizes in split_sizes(web[0], k):
                            deal = (roots, sizes)
                            self.assertTrue(told_parts(web, deal, find_parts(web, deal)), (web, deal))
                            tried += 1
        self.assertGreater(tried, 1000)

    def test_the_least_and_the_greatest_number(self):
        self.check_bar(bare(2), 1, find_bar(bare(2), 1))
        self.assertEqual(find_bar(bare(2), 1)[1], (2,))
        self.assertIs(find_bar(full(2), 1), None)
        self.check_bar(bare(12), 11, find_bar(bare(12), 11))
        self.check_bar(star(12), 11, bar_of(star(12), 11, (0,)))
        self.check_bar(star(12), 11, bar_of(star(12), 11, tuple(range(10))))
        self.assertIs(find_bar(full(12), 11), None)

    def test_somewhat_beyond_the_limits(self):
        # Without more places than roots there is no lot that could fail to hang.
        for web in SMALL + GREAT:
            self.assertIs(find_bar(web, web[0]), None)
            self.assertIs(find_bar(web, web[0] + 1), None)
        self.check_bar(bare(13), 12, find_bar(bare(13), 12))
        self.assertIs(find_bar(bare(13), 0), None)
        self.assertIs(is_bar(bare(13), 0, find_bar(bare(13), 1)), False)

    def test_bars_stay_when_a_tie_is_taken_away(self):
        for web in MIDDLE[::3]:
            bar = find_bar(web, web[0] - 1)
            if bar is not None:
                for tie in web[1]:
                    less = (web[0], tuple(other for other in web[1] if other != tie))
                    self.assertIs(is_bar(less, web[0] - 1, bar), True)

    def test_cuts_and_bars_go_together(self):
        for web in MIDDLE[::2]:
            for k in range(1, web[0]):
                cut = find_cut(web, k)
                if cut is not None:
                    self.assertTrue(is_cut(web, cut))
                    self.check_bar(web, k, bar_of(web, k, cut))


class IsBar(unittest.TestCase):
    def test_all_deals_of_small_webs(self):
        right = 0
        for web in SMALL:
            for deal in every_deal(web[0]):
                for k in range(1, web[0] + 2):
                    told = told_bar(web, k, deal)
                    self.assertIs(is_bar(web, k, deal), told, (web, k, deal))
                    right += told
        self.assertGreater(right, 100)

    def test_one_root(self):
        for root in range(4):
            self.assertIs(is_bar((4, ((0, 1), (2, 3))), 1, ((root,), (4,))), True)
            self.assertIs(is_bar(RING, 1, ((root,), (4,))), False)
        self.assertIs(is_bar(bare(1), 1, ((0,), (1,))), False)

    def test_sizes(self):
        web = star(5)
        self.assertIs(is_bar(web, 2, ((0, 1), (1, 4))), True)
        for sizes in [(4, 1), (2, 3), (1, 3), (1, 5), (True, 4), (1, 4, 0), [1, 4], (1,)]:
            self.assertIs(is_bar(web, 2, ((0, 1), sizes)), False, sizes)
        self.assertIs(is_bar(web, 3, ((0, 1, 2), (1, 1, 3))), True)
        for sizes in [(1, 2, 2), (2, 1, 2), (3, 1, 1), (1, 1, 2)]:
            self.assertIs(is_bar(web, 3, ((0, 1, 2), sizes)), False, sizes)

    def test_roots(self):
        web = star(5)
        for roots in [(1, 0), (2, 3), (0, 0), (0, 5), (0, True), (False, 1), (0,), (0, 1, 2), [0, 1]]:
            self.assertIs(is_bar(web, 2, (roots, (1, 4))), False, roots)
        # The last root is one of the places that do not hang.
        for root in (1, 2, 3, 4):
            self.assertIs(is_bar(web, 2, ((0, root), (1, 4))), True)

    def test_another_number(self):
        bar = ((0, 1), (1, 4))
        self.assertEqual([is_bar(star(5), k, bar) for k in range(1, 12)], [False, True] + [False] * 9)

    def test_odd_values_and_changed_bars(self):
        for web, k, bar in [(PATH, 2, ((1, 3), (1, 3))), (RING, 3, ((0, 2, 1), (1, 1, 2))), (bare(2), 1, ((1,), (2,)))]:
            self.assertIs(is_bar(web, k, bar), True)
            right = {repr(deal) for deal in every_deal(web[0]) if told_bar(web, k, deal)}
            for value in odd_values() + mutants(bar):
                self.assertIs(is_bar(web, k, value), repr(value) in right, repr(value)[:80])

    def test_bars_of_other_webs(self):
        for web in (RING, PATH, STAR, full(4)):
            for other in SMALL[11::5]:
                for k in (1, 2, 3):
                    bar = find_bar(other, k) if other[0] == 4 else None
                    if bar is not None:
                        self.assertIs(is_bar(web, k, bar), told_bar(web, k, bar))
        self.assertIs(is_bar(KITE, 2, find_bar(STAR, 2)), False)
