"""What holds of all calls: arguments kept as they are, new results, equal answers, and the time that they take."""

import unittest
from copy import deepcopy
from random import Random
from time import process_time

from rootparts.cuts import find_cut, find_paper, is_cut, is_paper, is_way, parting_lot, ways_apart
from rootparts.deals import every_sizes
from rootparts.errors import RootpartsError
from rootparts.fewest import bound_tells, find_bound, find_mending, is_mending, ties_needed
from rootparts.firmness import bar_of, find_bar, firmness, is_bar, is_firm
from rootparts.frees import find_free, find_table, is_free, is_table, roots_of, served_roots
from rootparts.maplogs import first_map_fault, is_map_log, map_log, resumed_map, webs_of_log
from rootparts.maps import Map
from rootparts.moves import find_row, find_shut, is_row, is_shut, is_standing, moves_of, standings
from rootparts.orders import find_loose, find_order, is_loose, is_order, parts_by_order
from rootparts.papers import is_text, read_web, write_web
from rootparts.services import find_service, find_want, is_service, is_want, served_sizes, service_by_order
from rootparts.trees import find_parts, find_tree, first_state, is_tree, leaves, room_of
from rootparts.webs import loose_ties
from rootparts.weights import even_size, every_cut_weight, weight_of, weighted_size
from tests.drawn import make
from tests.samples import (
    GREAT, KITE, PATH, RING, STAR, bare, full, grid, odd_values, path, rebuilt, ring, sampled_webs, split_sizes, star,
    two_sides,
)

# Deals of webs of twelve places for which many cases have to be gone through.
HARD = [
    ((12, (
        (0, 9), (1, 2), (1, 3), (1, 6), (1, 7), (1, 8), (1, 9), (1, 10), (1, 11), (2, 3), (2, 4), (2, 6), (2, 8),
        (2, 10), (2, 11), (3, 4), (3, 7), (3, 8), (3, 9), (3, 10), (4, 6), (4, 7), (4, 8), (4, 10), (4, 11), (5, 8),
        (5, 9), (6, 7), (6, 8), (6, 11), (7, 8), (7, 10), (8, 10), (9, 11), (10, 11),
    )), ((5, 0, 8), (4, 4, 4))),
    ((12, (
        (0, 1), (0, 7), (0, 11), (1, 2), (1, 3), (1, 4), (1, 5), (1, 6), (1, 8), (1, 10), (2, 3), (2, 5), (2, 8),
        (2, 9), (2, 10), (2, 11), (3, 5), (3, 7), (3, 8), (3, 9), (3, 10), (4, 6), (4, 7), (5, 8), (5, 9), (5, 10),
        (5, 11), (6, 11), (7, 10), (7, 11), (8, 9), (8, 10), (9, 10), (9, 11),
    )), ((0, 1, 7, 4), (3, 3, 3, 3))),
    ((12, (
        (0, 1), (0, 2), (0, 3), (0, 4), (0, 7), (0, 10), (0, 11), (1, 2), (1, 3), (1, 4), (1, 5), (1, 7), (1, 8),
        (1, 11), (2, 3), (2, 5), (2, 6), (2, 7), (2, 8), (2, 10), (2, 11), (3, 4), (3, 5), (3, 6), (3, 8), (4, 6),
        (4, 7), (4, 9), (4, 10), (4, 11), (5, 7), (5, 8), (5, 10), (5, 11), (6, 10), (7, 8), (7, 11), (8, 10),
        (8, 11), (9, 10),
    )), ((6, 3, 2, 11, 9, 4), (2, 2, 2, 2, 2, 2))),
    (two_sides(4, 8), ((4, 5, 6, 7, 8), (3, 3, 2, 2, 2))),
    (two_sides(6, 6), ((0, 1, 2, 3), (3, 3, 3, 3))),
]

DEAL = ((0, 2), (2, 2))
TREE = ("cases", 2, (("full", 0), ("short", 1)))
PAPER = {(0, 2): ((0, 1, 2), (0, 3, 2)), (1, 3): ((1, 2, 3), (1, 0, 3))}

ORDER = (0, 1, 3, 2)
WEIGHTS = (5, 1, 2, 4)
WIDE = ((1, 3), (1, 3))
TIGHT = ((2, 2), (2, 2))
ONE, OTHER = (0, 0, 1, 1), (0, 1, 1, 0)
LOTS = ("lots", ((1,), (2,), (3,)))
SERVICE = {(1, 3): (0, 1, 1, 1), (2, 2): (0, 0, 1, 1), (3, 1): (0, 0, 0, 1)}
WANT = ((3, 1), ("short", 0))
LOG = [(("tie", 2, 0), 1, ()), (("root", 1), 1, (1,))]
TEXT = "places 2\ntie 0 1\nparts 1 11\n"

CALLS = [
    (first_state, (RING, DEAL)), (room_of, (RING, DEAL, (0, -1, 1, -1), 0)), (find_parts, (RING, DEAL)),
    (find_parts, (PATH, ((0, 2), (3, 1)))), (find_tree, (PATH, ((0, 2), (3, 1)))), (find_tree, (RING, DEAL)),
    (find_tree, (two_sides(2, 5), ((2, 3, 4), (3, 3, 1)))), (is_tree, (STAR, ((0, 1), (1, 3)), TREE)), (leaves, (TREE,)),
    (is_cut, (RING, (0, 2))), (is_way, (RING, 0, 2, (0, 3, 2))), (ways_apart, (KITE, 0, 3)), (ways_apart, (KITE, 3, 0)),
    (parting_lot, (RING, 0, 2)), (find_paper, (RING, 2)), (find_paper, (full(4), 2)), (find_paper, (KITE, 2)),
    (find_cut, (KITE, 2)), (find_cut, (RING, 2)), (is_paper, (RING, 2, PAPER)),
    (is_firm, (RING, 2)), (firmness, (KITE,)), (bar_of, (KITE, 2, (3,))), (find_bar, (KITE, 3)), (find_bar, (RING, 2)),
    (is_bar, (PATH, 2, ((1, 0), (1, 3)))),
    (find_order, (RING, 0, 2)), (find_order, (PATH, 0, 2)), (find_loose, (PATH, 0, 2)), (find_loose, (RING, 0, 2)),
    (is_order, (RING, 0, 2, (0, 1, 3, 2))), (is_loose, (PATH, 0, 2, (2, (3,)))), (parts_by_order, ((0, 1, 3, 2), 3)),
    (weight_of, (WEIGHTS, (0, 3))), (weighted_size, (WEIGHTS, ORDER, 7)), (even_size, (WEIGHTS, ORDER)),
    (every_cut_weight, (WEIGHTS, ORDER)),
    (find_free, (RING, (2, 2))), (find_free, (STAR, (2, 2))), (find_table, (STAR, (2, 2))), (find_table, (RING, (2, 2))),
    (is_free, (RING, (2, 2), (0, 0, 1, 1))), (is_table, (bare(2), (2,), {(0,): ("short", 0), (1,): ("short", 0)})),
    (served_roots, (STAR, (3, 1))), (roots_of, ((1, 0, 1, 1), 2)),
    (is_standing, (RING, (0, 2), WIDE, ONE)), (standings, (RING, (0, 2), WIDE)), (moves_of, (RING, (0, 2), WIDE, ONE)),
    (find_row, (RING, (0, 2), WIDE, ONE, OTHER)), (find_shut, (RING, (0, 2), WIDE, ONE, OTHER)),
    (find_row, (RING, (0, 2), TIGHT, ONE, OTHER)), (find_shut, (RING, (0, 2), TIGHT, ONE, OTHER)),
    (is_row, (RING, (0, 2), WIDE, ONE, OTHER, (ONE, (0, 0, 1, 0), OTHER))),
    (is_shut, (RING, (0, 2), TIGHT, ONE, OTHER, (ONE,))),
    (ties_needed, (STAR,)), (find_mending, (bare(5),)), (is_mending, (STAR, ((1, 2), (2, 3)))), (find_bound, (STAR,)),
    (find_bound, (bare(5),)), (bound_tells, (STAR, LOTS)),
    (served_sizes, (PATH, (0, 2))), (find_service, (PATH, (0, 3))), (find_service, (PATH, (0, 2))),
    (find_want, (PATH, (0, 2))), (find_want, (PATH, (0, 3))), (is_service, (PATH, (0, 3), SERVICE)),
    (is_want, (PATH, (0, 2), WANT)), (service_by_order, (ORDER,)),
    (first_map_fault, (3, LOG)), (first_map_fault, (3, LOG + [[]])), (is_map_log, (3, LOG)), (webs_of_log, (3, LOG)),
    (write_web, (RING, (0, 0, 1, 1))), (write_web, (RING, None)), (read_web, (TEXT,)), (is_text, (TEXT,)),
]

CHECKS = [
    (is_tree, (STAR, ((0, 1), (1, 3)))), (is_cut, (RING,)), (is_way, (RING, 0, 2)), (is_paper, (RING, 2)),
    (is_bar, (PATH, 2)), (is_order, (RING, 0, 2)), (is_loose, (PATH, 0, 2)),
    (is_free, (STAR, (1, 3))), (is_table, (bare(2), (2,))), (is_standing, (KITE, (0, 4), ((1, 5), (1, 5)))),
    (is_row, (RING, (0, 2), WIDE, ONE, OTHER)), (is_shut, (RING, (0, 2), TIGHT, ONE, OTHER)), (is_mending, (STAR,)),
    (is_service, (PATH, (0, 3))), (is_want, (PATH, (0, 2))), (is_map_log, (3,)), (is_text, ()),
]

# For each check a value that it takes, and that no other one does.
RIGHT = [
    TREE, (0, 2), (0, 3, 2), PAPER, ((1, 0), (1, 3)), ORDER, (2, (3,)),
    (1, 0, 1, 1), {(0,): ("short", 0), (1,): ("short", 0)}, (0, 0, 0, 0, 1),
    (ONE, (0, 0, 1, 0), OTHER), (ONE,), ((1, 2), (2, 3)),
    SERVICE, WANT, LOG, TEXT,
]

# Calls that tell a list or a dict.
TOLD = [
    (every_sizes, (5, 3)), (find_paper, (RING, 2)), (find_paper, (full(4), 2)), (every_cut_weight, (WEIGHTS, ORDER)),
    (find_table, (STAR, (2, 2))), (served_roots, (STAR, (3, 1))), (served_roots, (STAR, (2, 2))),
    (standings, (RING, (0, 2), WIDE)), (standings, (RING, (0,), WIDE)), (moves_of, (RING, (0, 2), WIDE, ONE)),
    (moves_of, (RING, (0, 2), TIGHT, ONE)),
    (served_sizes, (PATH, (0, 2))), (find_service, (PATH, (0, 3))), (service_by_order, (ORDER,)), (webs_of_log, (3, LOG)),
    (map_log, (resumed_map(3, LOG),)), (map_log, (Map(2),)),
]


def changeable(value):
    """All lists and dicts within the value, itself included, each as often as it is there."""
    out = [value] if isinstance(value, (list, dict)) else []
    inner = [*value, *value.values()] if isinstance(value, dict) else value
    if isinstance(value, (list, dict, tuple)):
        for item in inner:
            out += changeable(item)
    return out


class Calls(unittest.TestCase):
    def test_no_call_changes_its_arguments(self):
        for function, arguments in CALLS:
            kept = repr(arguments)
            function(*arguments)
            self.assertEqual(repr(arguments), kept, function)

    def test_no_check_changes_any_value(self):
        lists = [[["short", 1], {"short": [1]}], ("cases", 2, [["full", 0], ["short", 1]]), ["short", 1], {(0, 2): [[0, 1, 2]]}]
        for value in odd_values() + lists + [PAPER, dict(PAPER), [0, 1, 3, 2], [2, [3]], (2, [3]), [[1, 0], [1, 3]]]:
            kept = deepcopy(value)
            for function, arguments in CHECKS:
                function(*arguments, value)
                self.assertEqual(repr(value), repr(kept), function)

    def test_equal_arguments_have_equal_results(self):
        for function, arguments in CALLS:
            told = repr(function(*arguments))
            for _ in range(2):
                self.assertEqual(repr(function(*rebuilt(arguments))), told, function)

    def test_the_order_of_calls_means_nothing(self):
        told = [repr(function(*arguments)) for function, arguments in CALLS]
        self.assertEqual([repr(function(*arguments)) for function, arguments in CALLS[::-1]], told[::-1])

    def test_checks_tell_bools(self):
        for value in odd_values() + RIGHT:
            for function, arguments in CHECKS:
                self.assertIsInstance(function(*arguments, value), bool)
        for at, (function, arguments) in enumerate(CHECKS):
            told = [function(*arguments, value) for value in RIGHT]
            self.assertEqual(told, [at == other for other in range(len(RIGHT))], function)

    def test_maps_may_stand_in_any_value(self):
        for chart in (Map(3), resumed_map(3, LOG)):
            for value in [
                chart, (chart,), [chart], (chart, chart), (0, chart), (chart, 0), {0: chart}, ("cases", 0, (chart, chart)),
                ("short", chart), (chart, ("short", 0)), ((3, 1), chart), ("lots", (chart,)), ("lots", ((chart,),)),
                [chart, chart], [(chart, 1, ())], [((chart, 1), 1, ())], [(("tie", chart, 0), 1, ())],
                [(("root", 1), chart, (1,))], [(("root", 1), 0, chart)], [(("root", 1), 0, (chart,))],
            ]:
                self.assertIs(bound_tells(STAR, value), None)
                for function, arguments in CHECKS:
                    self.assertIs(function(*arguments, value), False, (function, value))
                for call in [(chart.tie, value, 0), (chart.tie, 0, value), (chart.root, value), (chart.parts, value)]:
                    self.assertRaises(RootpartsError, *call)

    def test_a_log_is_not_kept(self):
        log = list(LOG)
        chart = resumed_map(3, log)
        log.clear()
        self.assertEqual([map_log(chart), chart == resumed_map(3, LOG)], [LOG, True])

    def test_each_told_list_and_dict_is_new(self):
        for function, arguments in TOLD:
            first, second = function(*arguments), function(*arguments)
            kept = repr(second)
            self.assertIsInstance(first, (list, dict))
            self.assertIsNot(first, second)
            # What the caller does with one does nothing to the other one, nor to what is told next.
            first.clear()
            self.assertEqual([repr(second), repr(function(*arguments))], [kept, kept], function)

    def test_no_two_lists_or_dicts_within_one_result_are_one(self):
        for function, arguments in TOLD:
            met = changeable(function(*arguments))
            self.assertEqual(len(set(map(id, met))), len(met), function)


class Time(unittest.TestCase):
    """No call takes more than a few seconds at the limits; here most take some hundredths of one."""

    def timed(self, function, *arguments):
        begin = process_time()
        told = function(*arguments)
        self.assertLess(process_time() - begin, 5, (function, arguments))
        return told

    def test_parts_and_trees(self):
        draw = Random(6)
        deals = list(HARD)
        for web in GREAT + sampled_webs(12, 30, 8):
            for k in (2, 3, 4, 5, 7):
                deals.append((web, (tuple(draw.sample(range(12), k)), draw.choice(split_sizes(12, k)))))
        for web, deal in deals:
            parts = self.timed(find_parts, web, deal)
            tree = self.timed(find_tree, web, deal)
            self.assertIs(parts is None, tree is not None)
            if tree is not None:
                self.assertIs(self.timed(is_tree, web, deal, tree), True)
                self.assertGreaterEqual(self.timed(leaves, tree), 1)

    def test_papers_cuts_and_bars(self):
        for web in GREAT + sampled_webs(12, 10, 7):
            self.timed(firmness, web)
            for k in range(1, 12):
                paper = self.timed(find_paper, web, k)
                self.timed(find_cut, web, k)
                self.timed(is_firm, web, k)
                self.timed(find_bar, web, k)
                if paper is not None:
                    self.assertIs(self.timed(is_paper, web, k, paper), True)
            for a, b in loose_ties(web)[::5]:
                self.timed(ways_apart, web, a, b)
                self.timed(parting_lot, web, a, b)

    def test_orders_and_loose_ends(self):
        for web in GREAT + sampled_webs(12, 10, 6):
            for a, b in [(0, 1), (0, 11), (11, 0), (4, 7)]:
                self.timed(find_order, web, a, b)
                self.timed(find_loose, web, a, b)

    def test_free_parts_and_tables(self):
        for web in [bare(5), full(5), path(5), star(5), ring(5), KITE] + sampled_webs(5, 10, 5):
            for k in (1, 2, 3):
                for sizes in split_sizes(5, k):
                    self.timed(find_free, web, sizes)
                    self.timed(served_roots, web, sizes)
                    table = self.timed(find_table, web, sizes)
                    self.assertIs(self.timed(is_table, web, sizes, table), table is not None)

    def test_standings_rows_and_shut_sets(self):
        for web in [bare(6), full(6), path(6), star(6), ring(6), grid(2, 3)] + sampled_webs(6, 10, 5):
            for roots in [(0,), (0, 5), (2, 1), (0, 2, 4), (5, 1, 0)]:
                bounds = ((1, 6),) * len(roots)
                told = self.timed(standings, web, roots, bounds)
                for standing in told[:1]:
                    self.timed(moves_of, web, roots, bounds, standing)
                    self.timed(find_row, web, roots, bounds, standing, told[-1])
                    shut = self.timed(find_shut, web, roots, bounds, standing, told[-1])
                    self.timed(is_shut, web, roots, bounds, standing, told[-1], shut)
        self.assertIs(self.timed(is_row, RING, (0, 2), WIDE, ONE, ONE, (ONE, (0, 0, 1, 0)) * 3000 + (ONE,)), True)
        self.assertIs(self.timed(is_shut, RING, (0, 2), WIDE, ONE, OTHER, (ONE,) * 20000), False)

    def test_fewest_ties(self):
        for web in [bare(6), full(6), path(6), star(6), ring(6), two_sides(2, 4)] + sampled_webs(6, 10, 5):
            self.timed(ties_needed, web)
            self.timed(find_mending, web)
            self.timed(find_bound, web)
        for value in [((0,),) * 20000, tuple((place,) for place in range(10000)), ((0, 1),) * 6000]:
            self.assertIs(self.timed(bound_tells, bare(6), ("lots", value)), None)

    def test_services_and_wants(self):
        for web in [bare(6), full(6), path(6), star(6), ring(6), grid(2, 3)] + sampled_webs(6, 10, 5):
            for roots in [(0,), (0, 5), (2, 1), (0, 2, 4), (5, 1, 0)]:
                self.timed(served_sizes, web, roots)
                service = self.timed(find_service, web, roots)
                want = self.timed(find_want, web, roots)
                self.assertIs(self.timed(is_service, web, roots, service), want is None)
                self.assertIs(self.timed(is_want, web, roots, want), service is None)

    def test_maps_and_logs(self):
        for web in [bare(8), full(8), path(8), star(8), ring(8), grid(2, 4), two_sides(3, 5)] + sampled_webs(8, 10, 5):
            chart = Map(8)
            for call in [("tie", a, b) for a, b in web[1]] + [("root", place) for place in (5, 0, 3)]:
                self.timed(make, chart, call)
            self.timed(chart.firmness)
            self.timed(chart.is_split)
            for sizes in split_sizes(8, 3):
                self.timed(chart.parts, sizes)
            for place in (1, 2, 4, 6):
                self.timed(chart.root, place)
            self.timed(chart.parts, (2, 1, 1, 1, 1, 1, 1))
            self.assertIs(self.timed(is_map_log, 8, self.timed(map_log, chart)), True)

    def test_a_long_log(self):
        chart = resumed_map(8, [(("tie", a, b), 0, ()) for a in range(8) for b in range(a + 1, 8)])
        for _ in range(5000):
            chart.untie(0, 1)
            chart.root(3)
            chart.tie(1, 0)
            chart.unroot(3)
        log = self.timed(map_log, chart)
        self.assertEqual(len(log), 20028)
        self.assertIs(self.timed(is_map_log, 8, log), True)
        self.assertEqual(self.timed(first_map_fault, 8, log[:-1] + log[:1]), 20027)
        self.assertEqual(len(self.timed(webs_of_log, 8, log)), 20028)
        resumed = self.timed(resumed_map, 8, log)
        self.assertIs(self.timed(resumed.__eq__, chart), True)
        self.assertEqual(self.timed(resumed.undo), ("unroot", 3))

    def test_texts(self):
        for web in GREAT:
            text = self.timed(write_web, web, (11,) * 12)
            self.assertEqual(self.timed(read_web, text), (web, (11,) * 12))
        for text in ["places 2\n" + "tie 0 1\n" * 50000, "places " + "1" * 100000 + "\n", "\n" * 100000, " " * 100000 + "\n"]:
            self.assertIs(self.timed(is_text, text), False)

    def test_great_values(self):
        great = [tuple(range(20000)), ((0, 1),) * 10000, {(a, b): () for a in range(140) for b in range(140)}]
        deep = ("short", 1)
        for _ in range(13):
            deep = ("cases", 2, (deep, deep))
        for value in great + [deep, [deep], {0: deep}]:
            for function, arguments in CHECKS:
                self.assertIs(self.timed(function, *arguments, value), False)
        for web in (bare(12), full(12), ring(12)):
            for value in great:
                self.assertIs(self.timed(is_cut, web, value), False)
                self.assertIs(self.timed(is_order, web, 0, 1, value), False)
                self.assertIs(self.timed(is_paper, web, 2, value), False)
