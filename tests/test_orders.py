"""Stage 6: orders or loose ends, and the parts that are read off an order."""

import unittest
from itertools import permutations

from rootparts.deals import is_parts
from rootparts.orders import find_loose, find_order, is_loose, is_order, parts_by_order
from rootparts.trees import find_parts
from rootparts.webs import with_tie
from tests.samples import (
    GREAT, KITE, PATH, RING, STAR, all_ties, bare, every_lot, every_web, full, grid, mutants, odd_values, path, ring,
    sampled_webs, star, told_loose, told_order, told_parts, two_sides,
)

SMALL = [web for n in range(2, 5) for web in every_web(n)]
MIDDLE = [web for n in range(6, 12) for web in sampled_webs(n, 25, n + 20)]


class OrdersOrLooseEnds(unittest.TestCase):
    def check(self, web, a, b):
        order, loose = find_order(web, a, b), find_loose(web, a, b)
        self.assertIs(order is None, loose is not None, (web, a, b))
        if order is not None:
            self.assertIsInstance(order, tuple)
            self.assertTrue(told_order(web, a, b, order), (web, a, b, order))
            self.assertIs(is_order(web, a, b, order), True)
            for size in range(1, web[0]):
                parts = parts_by_order(order, size)
                deal = ((a, b), (size, web[0] - size))
                self.assertTrue(told_parts(web, deal, parts), (web, deal, parts))
                self.assertIs(is_parts(web, deal, parts), True)
        else:
            place, lot = loose
            self.assertTrue(told_loose(web, a, b, place, lot), (web, a, b, loose))
            self.assertIs(is_loose(web, a, b, loose), True)
        return order is not None

    def check_all(self, webs):
        both = [0, 0]
        for web in webs:
            for a, b in list(permutations(range(web[0]), 2))[::1 if web[0] < 6 else 7]:
                both[self.check(web, a, b)] += 1
        return both

    def test_small_webs(self):
        self.assertGreater(min(self.check_all(SMALL)), 100)

    def test_webs_of_five_places(self):
        self.assertGreater(min(self.check_all(every_web(5))), 1000)

    def test_middle_webs(self):
        self.assertGreater(min(self.check_all(MIDDLE)), 200)

    def test_great_webs(self):
        self.assertGreater(min(self.check_all(GREAT + sampled_webs(12, 10, 4))), 50)

    def test_orders_are_told_just_where_some_order_of_all_is_right(self):
        for web in SMALL + every_web(5)[::90]:
            n = web[0]
            for a, b in permutations(range(n), 2):
                told = any(told_order(web, a, b, order) for order in permutations(range(n)))
                self.assertIs(find_order(web, a, b) is not None, told, (web, a, b))

    def test_two_places(self):
        for web in (bare(2), full(2)):
            self.assertEqual(find_order(web, 0, 1), (0, 1))
            self.assertEqual(find_order(web, 1, 0), (1, 0))
            self.assertIs(find_loose(web, 0, 1), None)

    def test_known_webs(self):
        for n in range(3, 13):
            self.assertEqual(find_order(path(n), 0, n - 1), tuple(range(n)))
            self.assertEqual(find_order(path(n), n - 1, 0), tuple(range(n))[::-1])
            self.assertIs(find_order(path(n), 0, 1), None)
            self.assertEqual(find_order(full(n), 2, 0) is None, False)
            self.assertIs(find_order(bare(n), 0, 1), None)
            self.assertIs(find_order(star(n), 1, 2) is None, n > 3)
        self.assertIs(find_loose(grid(3, 4), 0, 11), None)
        self.assertIs(find_loose(two_sides(2, 10), 2, 11), None)

    def test_one_piece_out_of_reach(self):
        for a, b in permutations((0, 1, 2), 2):
            web = (5, ((0, 1), (0, 2), (1, 2), (3, 4)))
            self.check(web, a, b)
            self.assertEqual(find_loose(web, a, b)[1], (3, 4))
        # Each of both ends in a piece of its own: then each piece but its end is loose.
        self.assertIs(self.check((4, ((0, 1), (2, 3))), 0, 2), False)

    def test_ties_between_both_ends_are_not_asked(self):
        for web in SMALL + MIDDLE[::5]:
            for a, b in all_ties(web[0]):
                less = (web[0], tuple(tie for tie in web[1] if tie != (a, b)))
                told = find_order(less, a, b) is None
                self.assertIs(find_order(with_tie(web, a, b), a, b) is None, told, (web, a, b))

    def test_orders_stay_with_a_further_tie_and_loose_ends_with_a_tie_less(self):
        for web in MIDDLE[::9]:
            order, loose = find_order(web, 0, 1), find_loose(web, 0, 1)
            for a, b in all_ties(web[0]):
                if order is not None:
                    self.assertIs(is_order(with_tie(web, a, b), 0, 1, order), True)
                else:
                    less = (web[0], tuple(tie for tie in web[1] if tie != (a, b)))
                    self.assertIs(is_loose(less, 0, 1, loose), True)

    def test_two_roots_with_an_order_are_served_for_every_size(self):
        for web in SMALL + MIDDLE[:25]:
            if find_order(web, 0, 1) is not None:
                for size in range(1, web[0]):
                    self.assertIsNot(find_parts(web, ((0, 1), (size, web[0] - size))), None)

    def test_somewhat_beyond_the_limits(self):
        self.assertTrue(told_order(ring(14), 0, 5, find_order(ring(14), 0, 5)))
        self.assertTrue(told_loose(path(14), 3, 5, *find_loose(path(14), 3, 5)))
        self.assertEqual(parts_by_order((0, 1, 3, 2), 0), (1, 1, 1, 1))
        self.assertEqual(parts_by_order((0, 1, 3, 2), 4), (0, 0, 0, 0))


class IsOrder(unittest.TestCase):
    def test_all_orders_of_small_webs(self):
        for web in SMALL + every_web(5)[::40]:
            n = web[0]
            for order in permutations(range(n)):
                for a, b in [(order[0], order[-1]), (order[-1], order[0]), (0, 1)]:
                    self.assertIs(is_order(web, a, b, order), told_order(web, a, b, order), (web, a, b, order))

    def test_an_end_without_neighbours(self):
        self.assertIs(is_order(bare(2), 0, 1, (0, 1)), True)
        self.assertIs(is_order(bare(2), 1, 0, (0, 1)), False)
        self.assertIs(is_order(bare(3), 0, 2, (0, 1, 2)), False)

    def test_a_neighbour_on_one_side_only(self):
        self.assertIs(is_order(PATH, 0, 3, (0, 1, 2, 3)), True)
        self.assertIs(is_order(PATH, 0, 3, (0, 2, 1, 3)), False)
        self.assertIs(is_order(PATH, 1, 3, (1, 0, 2, 3)), False)
        self.assertIs(is_order(PATH, 0, 2, (0, 1, 3, 2)), False)
        self.assertIs(is_order((3, ((0, 1),)), 0, 2, (0, 1, 2)), False)
        self.assertIs(is_order((3, ((1, 2),)), 0, 2, (0, 1, 2)), False)

    def test_places_left_out_or_twice(self):
        for value in [(0, 1, 2), (0, 2), (0,), (), (0, 1, 1, 2), (0, 1, 3, 3, 2), (0, 1, 3, 1, 2), (0, 1, 3, 2, 2), (0, 0, 1, 2)]:
            self.assertIs(is_order(RING, 0, 2, value), False, value)
        for value in [(0, 1, 4, 2), (0, -1, 3, 2), (0, 1, 3, 10 ** 99)]:
            self.assertIs(is_order(RING, 0, 2, value), False, value)

    def test_bools_are_no_places(self):
        self.assertIs(is_order(RING, 0, 2, (0, 1, 3, 2)), True)
        for value in [(False, 1, 3, 2), (0, True, 3, 2), (False, True, 3, 2)]:
            self.assertIs(is_order(RING, 0, 2, value), False, value)
        self.assertIs(is_order(full(2), 0, 1, (0, True)), False)

    def test_odd_values_and_changed_orders(self):
        for web, a, b in [(RING, 0, 2), (KITE, 0, 4), (full(4), 1, 2), (full(2), 0, 1)]:
            right = {repr(order) for order in permutations(range(web[0])) if told_order(web, a, b, order)}
            self.assertTrue(right)
            for value in odd_values() + mutants(find_order(web, a, b)):
                self.assertIs(is_order(web, a, b, value), repr(value) in right, repr(value)[:80])


class IsLoose(unittest.TestCase):
    def test_all_places_and_lots(self):
        right = 0
        for web in SMALL + every_web(5)[::60]:
            n = web[0]
            for a, b in permutations(range(n), 2):
                for place in range(n):
                    for lot in every_lot(n):
                        told = told_loose(web, a, b, place, lot)
                        self.assertIs(is_loose(web, a, b, (place, lot)), told, (web, a, b, place, lot))
                        right += told
        self.assertGreater(right, 1000)

    def test_the_place_may_be_an_end(self):
        self.assertIs(is_loose(PATH, 0, 2, (2, (3,))), True)
        self.assertIs(is_loose(PATH, 2, 0, (2, (3,))), True)
        self.assertIs(is_loose(PATH, 0, 1, (2, (3,))), True)
        self.assertIs(is_loose(PATH, 0, 1, (1, (2, 3))), True)
        self.assertIs(is_loose(PATH, 0, 1, (1, (2,))), False)
        self.assertIs(is_loose(PATH, 0, 3, (2, (3,))), False)
        self.assertIs(is_loose(PATH, 3, 0, (2, (3,))), False)

    def test_the_lot(self):
        self.assertIs(is_loose(STAR, 0, 1, (0, (2, 3))), True)
        self.assertIs(is_loose(STAR, 0, 1, (0, (2,))), True)
        for value in [
            (0, ()), (0, (3, 2)), (0, (2, 2)), (0, [2]), (0, (2, 4)), (0, (-1, 2)), (0, 2), (0, None), (0, {2: 3}),
            (1, (2,)), (2, (2,)), (3, (2, 3)), (0, (0, 2)), (0, (1, 2)), (4, (2,)), (-4, (2,)),
        ]:
            self.assertIs(is_loose(STAR, 0, 1, value), False, value)

    def test_a_lot_without_neighbours_outside(self):
        web = (5, ((0, 1), (2, 3)))
        for place in (0, 1, 4):
            self.assertIs(is_loose(web, 0, 1, (place, (2, 3))), True)
        self.assertIs(is_loose(web, 0, 1, (2, (3,))), True)
        self.assertIs(is_loose(web, 0, 1, (2, (3, 4))), True)

    def test_bools_are_no_places(self):
        self.assertIs(is_loose(PATH, 0, 1, (1, (2, 3))), True)
        self.assertIs(is_loose(PATH, 0, 1, (True, (2, 3))), False)
        self.assertIs(is_loose(PATH, 2, 3, (2, (0, 1))), True)
        self.assertIs(is_loose(PATH, 2, 3, (2, (0, True))), False)
        self.assertIs(is_loose(PATH, 2, 3, (2, (False, 1))), False)
        self.assertIs(is_loose(STAR, 1, 2, (False, (3,))), False)

    def test_odd_values_and_changed_loose_ends(self):
        for web, a, b in [(PATH, 0, 2), (STAR, 0, 1), (KITE, 0, 1), (bare(3), 0, 1)]:
            n = web[0]
            right = {
                repr((place, lot)) for place in range(n) for lot in every_lot(n) if told_loose(web, a, b, place, lot)
            }
            self.assertTrue(right)
            for value in odd_values() + mutants(find_loose(web, a, b)):
                self.assertIs(is_loose(web, a, b, value), repr(value) in right, repr(value)[:80])


class PartsByOrder(unittest.TestCase):
    def test_all_orders_and_sizes(self):
        for n in range(2, 6):
            for order in permutations(range(n)):
                for size in range(1, n):
                    told = tuple(0 if order.index(place) < size else 1 for place in range(n))
                    self.assertEqual(repr(parts_by_order(order, size)), repr(told), (order, size))

    def test_a_great_order(self):
        order = tuple(range(11, -1, -1))
        self.assertEqual(parts_by_order(order, 1), (1,) * 11 + (0,))
        self.assertEqual(parts_by_order(order, 11), (1,) + (0,) * 11)
