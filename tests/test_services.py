"""Stage 11: all sizes for told roots."""

import unittest
from itertools import permutations

from rootparts.deals import every_sizes
from rootparts.firmness import firmness
from rootparts.orders import find_order, parts_by_order
from rootparts.services import find_service, find_want, is_service, is_want, served_sizes, service_by_order
from rootparts.trees import find_parts, find_tree
from rootparts.webs import with_tie
from tests.samples import (
    KITE, PATH, RING, STAR, all_ties, bare, every_web, full, grid, mutants, odd_values, path, ring, sampled_webs,
    served_deals, split_sizes, star, start, told_order, told_parts, told_tree, two_sides,
)

SMALL = [web for n in range(1, 5) for web in every_web(n)]
MIDDLE = every_web(5)[::29] + sampled_webs(6, 12, 11)
SIX = [bare(6), full(6), ring(6), path(6), star(6), grid(2, 3), two_sides(2, 4), two_sides(3, 3), KITE]


def every_roots(web):
    return [roots for k in range(1, min(3, web[0]) + 1) for roots in permutations(range(web[0]), k)]


def told_service(web, roots, value):
    """Whether the dict from tuples of integers to tuples of integers is a service."""
    every = split_sizes(web[0], len(roots))
    if sorted(map(repr, value)) != list(map(repr, every)):
        return False
    return all(told_dealing(web, (roots, sizes), value[sizes]) for sizes in every)


def told_dealing(web, deal, value):
    if not isinstance(value, tuple) or len(value) != web[0]:
        return False
    return all(type(part) is int and part in range(len(deal[0])) for part in value) and told_parts(web, deal, value)


def told_want(web, roots, value):
    """Whether the tuple is a want."""
    sizes, tree = value
    if repr(sizes) not in map(repr, split_sizes(web[0], len(roots))):
        return False
    return told_tree(web, (roots, sizes), start(web, (roots, sizes)), tree)


class ServicesOrWants(unittest.TestCase):
    def check(self, web, roots, served):
        every = split_sizes(web[0], len(roots))
        told = [sizes for sizes in every if (roots, sizes) in served]
        self.assertEqual(repr(served_sizes(web, roots)), repr(told), (web, roots))
        service, want = find_service(web, roots), find_want(web, roots)
        self.assertIs(service is None, want is not None, (web, roots))
        self.assertIs(service is not None, told == every, (web, roots))
        if service is not None:
            self.assertIsInstance(service, dict)
            self.assertTrue(told_service(web, roots, service), (web, roots, service))
            self.assertIs(is_service(web, roots, service), True)
        else:
            self.assertIsInstance(want, tuple)
            self.assertTrue(told_want(web, roots, want), (web, roots, want))
            self.assertIs(is_want(web, roots, want), True)
        return service is not None

    def check_all(self, webs, step):
        both = []
        for web in webs:
            served = {k: served_deals(web, k) for k in (1, 2, 3)}
            both += [self.check(web, roots, served[len(roots)]) for roots in every_roots(web)[::step]]
        self.assertGreater(min(both.count(True), both.count(False)), 100)

    def test_small_webs(self):
        self.check_all(SMALL, 1)

    def test_webs_of_five_and_six_places(self):
        self.check_all(MIDDLE + SIX, 5)

    def test_a_firm_web_serves_as_many_roots_as_it_is_firm_for(self):
        tried = 0
        for web in SMALL + MIDDLE + SIX:
            many = firmness(web) if web[0] > 1 else 0
            for roots in every_roots(web)[::3]:
                if len(roots) <= many:
                    self.assertIs(find_want(web, roots), None, (web, roots))
                    self.assertEqual(served_sizes(web, roots), split_sizes(web[0], len(roots)))
                    tried += 1
        self.assertGreater(tried, 300)

    def test_two_roots_with_an_order_are_served(self):
        tried = 0
        for web in SMALL + MIDDLE + SIX:
            for a, b in list(permutations(range(web[0]), 2))[::2]:
                order = find_order(web, a, b)
                if order is not None:
                    service = service_by_order(order)
                    self.assertTrue(told_service(web, (a, b), service), (web, order))
                    self.assertIs(is_service(web, (a, b), service), True)
                    self.assertIsNot(find_service(web, (a, b)), None)
                    tried += 1
        self.assertGreater(tried, 100)

    def test_one_root_and_as_many_roots_as_places(self):
        self.assertEqual(find_service(RING, (3,)), {(4,): (0, 0, 0, 0)})
        self.assertEqual(find_service(bare(1), (0,)), {(1,): (0,)})
        self.assertEqual(find_service(bare(3), (2, 0, 1)), {(1, 1, 1): (1, 2, 0)})
        self.assertEqual(find_want(bare(2), (1,))[0], (2,))
        self.assertEqual([served_sizes(bare(2), (1,)), served_sizes(bare(2), (1, 0))], [[], [(1, 1)]])

    def test_somewhat_beyond_the_limits(self):
        for web in (ring(8), grid(2, 4), star(7), two_sides(3, 5)):
            for roots in [(0, 4), (1, 2, 3), (0, 1, 2, 3)]:
                served = {(roots, sizes) for sizes in every_sizes(web[0], len(roots)) if find_parts(web, (roots, sizes))}
                self.check(web, roots, served)

    def test_services_stay_with_a_further_tie_and_wants_with_a_tie_less(self):
        tried = [0, 0]
        for web in SMALL[::3] + MIDDLE[::2]:
            for roots in every_roots(web)[::7]:
                service, want = find_service(web, roots), find_want(web, roots)
                for a, b in all_ties(web[0]):
                    if service is not None:
                        self.assertIs(is_service(with_tie(web, a, b), roots, service), True)
                    else:
                        less = (web[0], tuple(tie for tie in web[1] if tie != (a, b)))
                        self.assertIs(is_want(less, roots, want), True)
                    tried[service is None] += 1
        self.assertGreater(min(tried), 100)


class IsService(unittest.TestCase):
    def test_sizes_left_out_or_put_in(self):
        for web, roots in [(RING, (0, 2)), (KITE, (0, 4)), (full(5), (3, 1, 0)), (ring(6), (5,))]:
            service = find_service(web, roots)
            k = len(roots)
            self.assertIs(is_service(web, roots, service), True)
            for sizes in service:
                less = {key: parts for key, parts in service.items() if key != sizes}
                self.assertIs(is_service(web, roots, less), False)
                for key in [sizes[:-1], sizes + (1,), (0,) * k, (web[0],) * (k + 1), sizes[:-1] + (9,), None, "a", 0, ((1,),)]:
                    self.assertIs(is_service(web, roots, {**service, key: service[sizes]}), False, key)
                    self.assertIs(is_service(web, roots, {**less, key: service[sizes]}), False, key)

    def test_dealings_exchanged(self):
        for web, roots in [(RING, (0, 2)), (full(5), (3, 1, 0))]:
            service = find_service(web, roots)
            for one, other in permutations(service, 2):
                changed = {**service, one: service[other], other: service[one]}
                self.assertIs(is_service(web, roots, changed), False)
                self.assertIs(is_service(web, roots, {**service, one: service[other]}), False)
                self.assertIs(is_service(web, roots, {**service, one: None}), False)

    def test_other_dealings_that_are_parts_too(self):
        service = find_service(RING, (0, 2))
        for dealing in [(0, 0, 1, 1), (0, 1, 1, 0)]:
            self.assertIs(is_service(RING, (0, 2), {**service, (2, 2): dealing}), True)
        self.assertIs(is_service(RING, (0, 2), {**service, (2, 2): (1, 1, 0, 0)}), False)
        self.assertIs(is_service(RING, (2, 0), service), False)
        self.assertIs(is_service(RING, (2, 0), {sizes: parts for sizes, parts in find_service(RING, (2, 0)).items()}), True)

    def test_the_order_of_the_sizes_means_nothing(self):
        service = find_service(KITE, (0, 4))
        self.assertIs(is_service(KITE, (0, 4), dict(list(service.items())[::-1])), True)

    def test_bools_are_no_integers(self):
        service = find_service(full(3), (0, 1))
        self.assertIs(is_service(full(3), (0, 1), service), True)
        for key, other in [((1, 2), (True, 2)), ((2, 1), (2, True))]:
            changed = {other if sizes == key else sizes: parts for sizes, parts in service.items()}
            self.assertEqual(changed, service)
            self.assertIs(is_service(full(3), (0, 1), changed), False)
        for parts in [(0, True, 1), (False, 1, 1), (0, 1, True)]:
            self.assertIs(is_service(full(3), (0, 1), {**service, (1, 2): parts}), False)

    def test_odd_values_and_changed_services(self):
        for web, roots in [(RING, (0, 2)), (PATH, (0, 3)), (full(3), (2, 0, 1)), (bare(1), (0,)), (STAR, (2,))]:
            service = find_service(web, roots)
            told = 0
            for value in odd_values() + mutants(service):
                right = isinstance(value, dict) and told_service(web, roots, value)
                self.assertIs(is_service(web, roots, value), right, repr(value)[:200])
                told += right
            self.assertGreater(told, 0)

    def test_services_of_other_webs_and_roots(self):
        services = [(web, roots, find_service(web, roots)) for web in (RING, PATH, full(4)) for roots in every_roots(web)[::3]]
        for _, _, service in services:
            for web, roots, _ in services:
                if service is not None:
                    self.assertIs(is_service(web, roots, service), told_service(web, roots, service))


class IsWant(unittest.TestCase):
    def test_other_sizes(self):
        web, roots = PATH, (0, 2)
        self.assertIs(is_want(web, roots, ((3, 1), ("short", 0))), True)
        for sizes in [
            (2, 2), (1, 3), (3, 2), (4,), (2, 1, 1), (3, True), (0, 4), (5, -1), [3, 1], None, 3, "31", (), (3, 1, 0),
            (True, 3), ((3, 1),),
        ]:
            self.assertIs(is_want(web, roots, (sizes, ("short", 0))), False, sizes)

    def test_a_tree_of_another_deal(self):
        deals = [(STAR, roots, sizes) for roots in permutations(range(4), 2) for sizes in split_sizes(4, 2)]
        trees = {deal: find_tree(deal[0], deal[1:]) for deal in deals}
        told = []
        for web, roots, sizes in deals:
            for tree in set(trees.values()):
                value = (sizes, tree)
                told.append(told_want(web, roots, value))
                self.assertIs(is_want(web, roots, value), told[-1], (roots, value))
        self.assertGreater(min(told.count(True), told.count(False)), 10)

    def test_no_want_where_there_are_parts(self):
        for web in SMALL[::5]:
            for roots in every_roots(web)[::2]:
                for sizes in served_sizes(web, roots):
                    for tree in [("short", 0), ("full", 0), ("lost", 0), None]:
                        self.assertIs(is_want(web, roots, (sizes, tree)), False)

    def test_other_forms(self):
        sizes, tree = (3, 1), ("short", 0)
        for value in [[sizes, tree], (sizes,), (tree, sizes), (sizes, tree, tree), {sizes: tree}, (sizes, list(tree)), (sizes, None)]:
            self.assertIs(is_want(PATH, (0, 2), value), False, value)

    def test_odd_values_and_changed_wants(self):
        for web, roots in [(PATH, (0, 2)), (star(5), (1, 2, 3)), (bare(2), (1,)), (path(6), (1, 3, 4)), ((4, ((0, 1), (1, 2))), (0, 3))]:
            want = find_want(web, roots)
            self.assertIs(is_want(web, roots, want), True)
            for value in odd_values() + mutants(want):
                right = isinstance(value, tuple) and len(value) == 2 and told_want(web, roots, value)
                self.assertIs(is_want(web, roots, value), right, repr(value)[:200])


class ServiceByOrder(unittest.TestCase):
    def test_all_orders(self):
        for n in range(2, 6):
            for order in permutations(range(n)):
                told = {(size, n - size): parts_by_order(order, size) for size in range(1, n)}
                self.assertEqual(service_by_order(order), told)
                self.assertTrue(told_order(full(n), order[0], order[-1], order))
                self.assertTrue(told_service(full(n), (order[0], order[-1]), service_by_order(order)))

    def test_two_and_twelve_places(self):
        self.assertEqual(service_by_order((1, 0)), {(1, 1): (1, 0)})
        service = service_by_order(tuple(range(12)))
        self.assertEqual(sorted(service), split_sizes(12, 2))
        self.assertIs(is_service(path(12), (0, 11), service), True)
