"""Stage 7: weights of places along an order."""

import unittest
from itertools import permutations
from random import Random

from rootparts.orders import find_order, parts_by_order
from rootparts.weights import even_size, every_cut_weight, weight_of, weighted_size
from tests.samples import KITE, RING, every_lot, grid, ring

SMALL = (1, 9)
GREAT = (10 ** 39, 10 ** 40)
FAR_APART = (1, 10 ** 40)


def drawn(seed, many):
    """Weights and orders of two to twelve places, in which the weights are small, great, or both."""
    draw = Random(seed)
    out = []
    for n in range(2, 13):
        for span in (SMALL, GREAT, FAR_APART, (1, 2), (1, 1)):
            for _ in range(many):
                order = tuple(draw.sample(range(n), n))
                out.append((tuple(draw.randint(*span) for _ in range(n)), order))
    for web, a, b in [(RING, 0, 2), (KITE, 0, 4), (ring(12), 3, 8), (grid(3, 4), 0, 11)]:
        order = find_order(web, a, b)
        for span in (SMALL, GREAT):
            out.append((tuple(draw.randint(*span) for _ in order), order))
    return out


def total_of(weights, places):
    total = 0
    for place in places:
        total += weights[place]
    return total


class WeightOf(unittest.TestCase):
    def test_all_lots(self):
        for weights in [(5, 1, 2, 4), (1, 1, 1), (7,), tuple(10 ** 39 + 3 * at for at in range(6))]:
            for lot in every_lot(len(weights)):
                self.assertEqual(repr(weight_of(weights, lot)), repr(total_of(weights, lot)))

    def test_no_place_and_all(self):
        self.assertEqual(repr(weight_of((5, 1), ())), "0")
        self.assertEqual(weight_of(tuple(range(1, 13)), tuple(range(12))), 78)


class WeightedSize(unittest.TestCase):
    def check(self, weights, order, target):
        size = weighted_size(weights, order, target)
        told = max(many for many in range(len(order) + 1) if total_of(weights, order[:many]) <= target)
        self.assertEqual(repr(size), repr(told), (weights, order, target))
        self.assertTrue(1 <= size < len(order), (weights, order, target))
        parts = parts_by_order(order, size)
        first = sum(weights[place] for place in range(len(order)) if parts[place] == 0)
        self.assertLessEqual(first, target)
        self.assertGreater(first, target - max(weights))

    def test_targets_at_and_beside_what_the_first_places_weigh(self):
        tried = 0
        for weights, order in drawn(1, 3):
            least = weights[order[0]]
            most = total_of(weights, order) - weights[order[-1]] - 1
            for many in range(1, len(order)):
                for beside in (-1, 0, 1):
                    target = total_of(weights, order[:many]) + beside
                    if least <= target <= most:
                        self.check(weights, order, target)
                        tried += 1
        self.assertGreater(tried, 1000)

    def test_the_least_and_the_greatest_target(self):
        for weights, order in drawn(2, 3):
            least = weights[order[0]]
            most = total_of(weights, order) - weights[order[-1]] - 1
            if least <= most:
                self.assertEqual(weighted_size(weights, order, least), 1)
                self.check(weights, order, least)
                self.check(weights, order, most)

    def test_all_targets_of_small_weights(self):
        for weights in [(5, 1, 2, 4), (1, 1, 1, 1), (3, 9, 1, 2), (2, 1, 1, 7)]:
            for order in permutations(range(4)):
                for target in range(weights[order[0]], sum(weights) - weights[order[-1]]):
                    self.check(weights, order, target)

    def test_a_heavy_place_stops_lighter_ones_behind_it(self):
        self.assertEqual(weighted_size((1, 9, 1, 1), (0, 1, 2, 3), 5), 1)
        self.assertEqual(weighted_size((1, 1, 9, 1), (0, 1, 2, 3), 10), 2)
        self.assertEqual(weighted_size((1, 1, 9, 1), (0, 1, 2, 3), 11 - 1), 2)

    def test_somewhat_beyond_the_limits(self):
        self.assertEqual(weighted_size((1, 2, 3), (0, 1, 2), 0), 0)
        self.assertEqual(weighted_size((1, 2, 3), (0, 1, 2), 6), 3)
        self.assertEqual(weighted_size((1, 2, 3), (0, 1, 2), 100), 3)


class EvenSize(unittest.TestCase):
    def told(self, weights, order):
        best = None
        for size in range(1, len(order)):
            greater = max(total_of(weights, order[:size]), total_of(weights, order[size:]))
            if best is None or greater < best[0]:
                best = (greater, size)
        return best[1]

    def test_drawn_orders(self):
        for weights, order in drawn(3, 8):
            self.assertEqual(repr(even_size(weights, order)), repr(self.told(weights, order)), (weights, order))

    def test_the_least_of_equally_good_sizes(self):
        self.assertEqual(even_size((1, 1, 1), (0, 1, 2)), 1)
        self.assertEqual(even_size((1, 1, 1, 1, 1), (4, 3, 2, 1, 0)), 2)
        self.assertEqual(even_size((2, 3, 2), (0, 1, 2)), 1)
        self.assertEqual(even_size((1, 2, 1), (0, 1, 2)), 1)
        self.assertEqual(even_size((4, 1, 7, 4, 1), (0, 1, 2, 3, 4)), 2)

    def test_the_first_and_the_last_size(self):
        self.assertEqual(even_size((9, 1, 1, 1), (0, 1, 2, 3)), 1)
        self.assertEqual(even_size((1, 1, 1, 9), (0, 1, 2, 3)), 3)
        self.assertEqual(even_size((1, 1), (1, 0)), 1)
        self.assertEqual(even_size((10 ** 40, 10 ** 40 + 1, 1), (0, 1, 2)), 1)


class EveryCutWeight(unittest.TestCase):
    def test_drawn_orders(self):
        for weights, order in drawn(4, 4):
            told = [(total_of(weights, order[:size]), total_of(weights, order[size:])) for size in range(1, len(order))]
            self.assertEqual(repr(every_cut_weight(weights, order)), repr(told))

    def test_both_parts_of_parts_by_order(self):
        for weights, order in drawn(5, 1):
            for size, both in enumerate(every_cut_weight(weights, order), 1):
                parts = parts_by_order(order, size)
                for i in (0, 1):
                    self.assertEqual(sum(w for w, part in zip(weights, parts) if part == i), both[i])

    def test_two_places(self):
        self.assertEqual(every_cut_weight((3, 4), (1, 0)), [(4, 3)])
