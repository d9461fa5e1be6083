"""Stage 4: cuts, ways that are apart, papers."""

import unittest
from itertools import permutations, product

from rootparts.cuts import find_cut, find_paper, is_cut, is_paper, is_way, parting_lot, ways_apart
from rootparts.webs import is_lot, loose_ties, with_tie
from tests.samples import (
    GREAT, KITE, PATH, RING, STAR, all_ties, bare, every_lot, every_web, full, grid, least_cut, mutants, odd_values,
    other_places, path, ring, sampled_webs, star, told_cut, told_paper, told_pieces, told_way, two_sides,
)

SMALL = [web for n in range(1, 5) for web in every_web(n)]
MIDDLE = [web for n in range(5, 10) for web in sampled_webs(n, 25, n)]
# Some of its ways apart are not found by taking the shortest way first and keeping to it.
CROSSED = (8, ((0, 1), (0, 2), (1, 3), (1, 4), (2, 4), (3, 5), (4, 5), (4, 6), (5, 7), (6, 7)))


class IsCut(unittest.TestCase):
    def test_all_lots(self):
        for web in SMALL + MIDDLE[::5] + GREAT[:6]:
            for lot in every_lot(web[0]):
                self.assertIs(is_cut(web, lot), told_cut(web, lot), (web, lot))

    def test_ends(self):
        self.assertIs(is_cut(bare(1), ()), False)
        self.assertIs(is_cut(bare(1), (0,)), False)
        self.assertIs(is_cut(bare(2), ()), True)
        self.assertIs(is_cut(bare(2), (0,)), False)
        self.assertIs(is_cut(full(12), ()), False)
        self.assertIs(is_cut(bare(12), tuple(range(12))), False)
        self.assertIs(is_cut(bare(12), tuple(range(11))), False)
        self.assertIs(is_cut(bare(12), tuple(range(10))), True)

    def test_odd_values_and_changed_cuts(self):
        for web in (RING, STAR, bare(2), bare(12), full(12)):
            right = {repr(lot) for lot in every_lot(web[0]) if told_cut(web, lot)}
            for value in odd_values() + mutants((0, 2)) + mutants((0,)) + mutants((1, 3)):
                self.assertIs(is_cut(web, value), repr(value) in right, repr(value)[:80])

    def test_bools_and_disorder(self):
        self.assertIs(is_cut(RING, (1, 3)), True)
        for value in [(3, 1), [1, 3], (True, 3), (1, 1, 3), (1, 3, 4), (1, 3, -1), {1: 3}]:
            self.assertIs(is_cut(RING, value), False, value)
        self.assertIs(is_cut(PATH, (True,)), False)


class IsWay(unittest.TestCase):
    def test_all_rows_of_places_of_small_webs(self):
        for n, step in [(2, 1), (3, 1), (4, 9)]:
            for web in every_web(n)[::step]:
                for a, b in permutations(range(n), 2):
                    for many in range(n + 2):
                        for value in product(range(n), repeat=many):
                            self.assertIs(is_way(web, a, b, value), told_way(web, a, b, value), (web, a, b, value))

    def test_a_tie_is_a_way(self):
        self.assertIs(is_way(RING, 0, 1, (0, 1)), True)
        self.assertIs(is_way(RING, 1, 0, (1, 0)), True)
        self.assertIs(is_way(RING, 1, 0, (0, 1)), False)
        self.assertIs(is_way(RING, 0, 2, (0, 2)), False)

    def test_a_place_twice(self):
        self.assertIs(is_way(KITE, 0, 4, (0, 1, 3, 4)), True)
        for value in [(0, 1, 0, 1, 3, 4), (0, 1, 2, 1, 3, 4), (0, 0, 1, 3, 4), (0, 1, 3, 4, 4), (0, 1, 3, 4, 3, 4)]:
            self.assertIs(is_way(KITE, 0, 4, value), False, value)

    def test_great_ways(self):
        self.assertIs(is_way(path(12), 0, 11, tuple(range(12))), True)
        self.assertIs(is_way(path(12), 11, 0, tuple(range(12))[::-1]), True)
        self.assertIs(is_way(path(12), 0, 11, tuple(range(12))[::-1]), False)

    def test_odd_values_and_changed_ways(self):
        for web in (RING, KITE, full(12)):
            for way in [(0, 1, 3), (0, 3), (0, 1, 2, 3)]:
                for value in odd_values() + mutants(way) + [list(way), dict(enumerate(way))]:
                    told = is_row(value) and told_way(web, 0, 3, value)
                    self.assertIs(is_way(web, 0, 3, value), told, repr(value)[:80])

    def test_bools_are_no_places(self):
        self.assertIs(is_way(PATH, 0, 2, (0, 1, 2)), True)
        for value in [(False, 1, 2), (0, True, 2), (False, True, 2)]:
            self.assertIs(is_way(PATH, 0, 2, value), False, value)
        self.assertIs(is_way(PATH, 1, 2, (True, 2)), False)


def is_row(value):
    return isinstance(value, tuple) and all(type(item) is int for item in value)


class Ways(unittest.TestCase):
    def check(self, web):
        for tie in loose_ties(web):
            for a, b in (tie, tie[::-1]):
                ways, lot = ways_apart(web, a, b), parting_lot(web, a, b)
                self.assertIsInstance(ways, tuple)
                self.assertTrue(told_paper_row(web, a, b, ways), (web, a, b, ways))
                self.assertTrue(all(len(way) >= 3 and is_way(web, a, b, way) for way in ways))
                self.assertTrue(is_lot(web[0], lot) and a not in lot and b not in lot, (web, a, b, lot))
                # No more ways than places of any such lot, so both are as many and as few as may be.
                self.assertEqual(len(ways), len(lot), (web, a, b))
                for piece in told_pieces(web, other_places(web, lot)):
                    self.assertFalse(a in piece and b in piece, (web, a, b, lot))

    def test_small_webs(self):
        for web in SMALL:
            self.check(web)

    def test_webs_of_five_places(self):
        for web in every_web(5):
            self.check(web)

    def test_middle_and_great_webs(self):
        for web in MIDDLE + GREAT + sampled_webs(12, 12, 5):
            self.check(web)

    def test_ways_that_must_give_way(self):
        self.check(CROSSED)
        self.assertEqual(len(ways_apart(CROSSED, 0, 7)), 2)
        for at in range(3, 9):
            # The short way over the middle meets all others.
            web = (8, tuple(sorted([(0, 1), (1, 4), (4, 5), (5, 7), (0, 2), (2, 5), (1, 6), (6, 7), (3, 6)][:at])))
            self.check(web)
        self.assertEqual(len(ways_apart((6, ((0, 1), (0, 2), (1, 3), (1, 4), (2, 3), (3, 5), (4, 5))), 0, 5)), 2)

    def test_a_place_that_no_way_needs_any_more(self):
        # The first way goes over 1, 2 and 3; the second one pushes it aside, and 2 is free again.
        ties = ((0, 1), (0, 4), (1, 2), (1, 6), (2, 3), (3, 5), (3, 8), (4, 5), (6, 7), (7, 8))
        long = ((0, 9), (2, 10), (9, 11), (10, 11))
        for further in [(), long, long + ((3, 10), (3, 11)), long + ((8, 10),)]:
            web = (12, tuple(sorted(ties + further)))
            self.check(web)
            self.assertEqual(len(ways_apart(web, 0, 8)), 3 if (8, 10) in further else 2)

    def test_known_numbers(self):
        self.assertEqual(ways_apart(bare(2), 0, 1), ())
        self.assertEqual(parting_lot(bare(2), 0, 1), ())
        self.assertEqual(ways_apart((4, ((0, 1), (2, 3))), 0, 3), ())
        for n in range(4, 13):
            self.assertEqual(len(ways_apart(ring(n), 0, 2)), 2, n)
            self.assertEqual(parting_lot(star(n), 1, 2), (0,), n)
            self.assertEqual(len(ways_apart((n, all_ties(n)[1:]), 0, 1)), n - 2, n)
        self.assertEqual(parting_lot(two_sides(5, 7), 5, 11), (0, 1, 2, 3, 4))
        self.assertEqual(parting_lot(two_sides(5, 7), 0, 4), (5, 6, 7, 8, 9, 10, 11))
        self.assertEqual(len(ways_apart(grid(3, 4), 0, 11)), 2)


def told_paper_row(web, a, b, ways):
    inner = [place for way in ways for place in way[1:-1]]
    return len(inner) == len(set(inner)) and all(told_way(web, a, b, way) for way in ways)


class PapersAndCuts(unittest.TestCase):
    def check(self, web):
        least = least_cut(web)
        for k in range(1, 12):
            if web[0] > k:
                paper, cut = find_paper(web, k), find_cut(web, k)
                self.assertIs(paper is None, cut is not None, (web, k))
                self.assertIs(cut is not None, least is not None and least < k, (web, k))
                if cut is None:
                    self.assertIsInstance(paper, dict)
                    self.assertTrue(told_paper(web, k, paper), (web, k, paper))
                    self.assertIs(is_paper(web, k, paper), True)
                else:
                    self.assertTrue(is_lot(web[0], cut) and len(cut) < k and told_cut(web, cut), (web, k, cut))

    def test_all_webs_of_up_to_five_places(self):
        for web in SMALL + every_web(5)[::3]:
            self.check(web)

    def test_middle_webs(self):
        for web in MIDDLE:
            self.check(web)

    def test_great_webs(self):
        for web in GREAT[::2] + sampled_webs(12, 4, 9) + sampled_webs(11, 4, 9):
            self.check(web)

    def test_a_web_with_all_ties_has_the_empty_paper(self):
        for n in range(2, 13):
            for k in range(1, n):
                self.assertEqual(find_paper(full(n), k), {})
                self.assertIs(find_cut(full(n), k), None)
                self.assertIs(is_paper(full(n), k, {}), True)

    def test_a_web_in_two_pieces_has_the_empty_cut(self):
        for web in (bare(2), bare(12), (4, ((0, 1), (2, 3)))):
            self.assertEqual(find_cut(web, 1), ())
            self.assertIs(find_paper(web, 1), None)

    def test_somewhat_beyond_the_limits(self):
        for web in (RING, full(4), bare(4), bare(1), ring(13), full(13)):
            self.assertIs(find_cut(web, 0), None)
            self.assertEqual(find_paper(web, 0), {tie: () for tie in loose_ties(web)})
            self.assertIs(is_paper(web, 0, find_paper(web, 0)), True)
        self.assertIs(find_paper(ring(13), 12), None)
        self.assertEqual(len(find_cut(ring(13), 12)), 2)
        self.assertEqual(find_paper(full(13), 12), {})
        self.assertIs(is_cut(ring(14), (0, 13)), False)
        self.assertIs(is_cut(ring(14), (0, 12)), True)

    def test_the_dict_of_a_paper_is_new(self):
        told = find_paper(RING, 2)
        kept = dict(told)
        self.assertIsNot(find_paper(RING, 2), told)
        told.clear()
        self.assertEqual(find_paper(RING, 2), kept)
        self.assertTrue(is_paper(RING, 2, kept))
        empty = find_paper(full(3), 2)
        empty[(0, 1)] = ()
        self.assertEqual(find_paper(full(3), 2), {})

    def test_a_cut_stays_when_a_tie_is_taken_away(self):
        for web in MIDDLE[::3]:
            cut = find_cut(web, web[0] - 1)
            if cut is not None:
                for tie in web[1]:
                    self.assertTrue(is_cut((web[0], tuple(other for other in web[1] if other != tie)), cut))


def told_any_paper(web, k, value):
    """Whether any value is a paper: first the kinds of its items, then what they say."""
    if not isinstance(value, dict):
        return False
    for key, ways in value.items():
        if not (is_row(key) and isinstance(ways, tuple) and all(is_row(way) for way in ways)):
            return False
    return told_paper(web, k, value)


class IsPaper(unittest.TestCase):
    def setUp(self):
        self.ring = {(0, 2): ((0, 1, 2), (0, 3, 2)), (1, 3): ((1, 2, 3), (1, 0, 3))}

    def check_ring(self, change, told=False):
        paper = dict(self.ring)
        paper.update(change)
        self.assertIs(is_paper(RING, 2, paper), told, paper)

    def test_ways_exchanged_doubled_left_out_or_put_in(self):
        self.check_ring({}, True)
        self.check_ring({(0, 2): ((0, 3, 2), (0, 1, 2))}, True)
        self.check_ring({(0, 2): ((0, 1, 2), (0, 1, 2))})
        self.check_ring({(0, 2): ((0, 1, 2),)})
        self.check_ring({(0, 2): ()})
        self.check_ring({(0, 2): ((0, 1, 2), (0, 3, 2), (0, 1, 2))})
        self.check_ring({(0, 2): ((1, 2, 3), (1, 0, 3)), (1, 3): ((0, 1, 2), (0, 3, 2))})
        self.check_ring({(0, 2): ((0, 1, 2), (1, 0, 3))})
        self.check_ring({(0, 2): ((2, 1, 0), (2, 3, 0))})
        self.check_ring({(0, 2): ((0, 1, 2), (0, 2))})
        self.check_ring({(0, 2): [(0, 1, 2), (0, 3, 2)]})
        self.check_ring({(0, 2): ((0, 1, 2), [0, 3, 2])})
        self.check_ring({(0, 2): ((0, True, 2), (0, 3, 2))})
        self.check_ring({(0, 2): None})
        self.check_ring({(0, 2): (0, 1)})

    def test_pairs_left_out_or_put_in(self):
        ways = self.ring[(0, 2)]
        self.check_ring({(0, 1): ((0, 1), (0, 3, 2, 1))})
        self.check_ring({(2, 0): tuple(way[::-1] for way in ways)})
        self.check_ring({None: ()})
        self.check_ring({0: ways})
        for key in [(2, 0), (0, 1), (0, 3), (False, 2), (0,), (0, 2, 2), "02", 0, None, (0, 4), (-4, 2), ((0, 2),), (0, "2")]:
            paper = {(1, 3): self.ring[(1, 3)], key: ways}
            self.assertIs(is_paper(RING, 2, paper), False, paper)
        # As many pairs as there are to be, with ways apart for each, but one of the pairs is tied.
        paper = {(1, 3): self.ring[(1, 3)], (0, 1): ((0, 1), (0, 3, 2, 1))}
        self.assertIs(is_paper(RING, 2, paper), False)
        for key in self.ring:
            self.assertIs(is_paper(RING, 2, {key: self.ring[key]}), False)
        self.assertIs(is_paper(RING, 2, {}), False)
        self.assertIs(is_paper(full(4), 2, self.ring), False)
        self.assertIs(is_paper(full(4), 2, {(0, 1): ((0, 2, 1), (0, 3, 1))}), False)

    def test_keys_with_bools(self):
        # A dict takes (True, 3) for (1, 3), but a bool is no place.
        self.assertIs(is_paper(RING, 2, {(0, 2): self.ring[(0, 2)], (True, 3): self.ring[(1, 3)]}), False)
        self.assertIs(is_paper(RING, 2, {(False, 2): self.ring[(0, 2)], (1, 3): self.ring[(1, 3)]}), False)

    def test_the_order_of_the_keys_means_nothing(self):
        paper = {key: self.ring[key] for key in list(self.ring)[::-1]}
        self.assertIs(is_paper(RING, 2, paper), True)

    def test_another_number_or_web(self):
        for k in (1, 3):
            self.assertIs(is_paper(RING, k, self.ring), False)
        self.assertIs(is_paper(PATH, 2, self.ring), False)
        self.assertIs(is_paper(with_tie(RING, 0, 2), 2, {(1, 3): self.ring[(1, 3)]}), True)
        self.assertIs(is_paper(with_tie(RING, 0, 2), 2, self.ring), False)

    def test_ways_with_a_place_in_common(self):
        for web in (ring(6), CROSSED):
            paper = find_paper(web, 2)
            for key in paper:
                other = dict(paper)
                other[key] = (paper[key][0], paper[key][0])
                self.assertIs(is_paper(web, 2, other), False)
        web = two_sides(2, 3)
        paper = {(0, 1): ((0, 2, 1), (0, 3, 1)), (2, 3): ((2, 0, 3), (2, 1, 3)), (2, 4): ((2, 0, 4), (2, 1, 4))}
        self.assertIs(is_paper(web, 2, {**paper, (3, 4): ((3, 0, 4), (3, 1, 4))}), True)
        self.assertIs(is_paper(web, 2, {**paper, (3, 4): ((3, 0, 4), (3, 1, 2, 0, 4))}), False)
        self.assertIs(is_paper(web, 2, {**paper, (3, 4): ((3, 0, 4), (3, 0, 2, 1, 4))}), False)

    def test_papers_changed_at_one_place(self):
        tried = right = 0
        for web, k in [(RING, 2), (STAR, 1), ((4, ((0, 1), (0, 2), (0, 3), (1, 2), (1, 3))), 2), (ring(5), 2), (full(4), 3)]:
            for value in mutants(find_paper(web, k))[::3 if web[0] > 4 else 1]:
                told = told_any_paper(web, k, value)
                self.assertIs(is_paper(web, k, value), told, (web, k, repr(value)[:200]))
                right += told
                tried += 1
        self.assertGreater(tried, 5000)
        self.assertGreater(right, 2)

    def test_odd_values(self):
        for value in odd_values():
            for web, k in [(RING, 2), (STAR, 1), (bare(3), 2), (full(12), 11)]:
                told = value == {} and isinstance(value, dict) and web == full(12)
                self.assertIs(is_paper(web, k, value), told, repr(value)[:80])
