"""Stage 12: maps that are led tie by tie."""

import unittest
from itertools import combinations
from random import Random

from rootparts.errors import (
    AlreadyRoot, AlreadyTied, InvalidPlace, InvalidSizes, NotRoot, NotTied, RootpartsError, SamePlace,
)
from rootparts.firmness import firmness
from rootparts.maps import Map
from tests.drawn import ODD_PLACES, Record, drawn_call, drawn_map, make
from tests.samples import (
    RING, bare, full, mutants, odd_values, path, ring, sampled_webs, served_deals, split_sizes, star, told_parts,
    told_pieces,
)


def map_of(web, roots):
    chart = Map(web[0])
    for a, b in web[1]:
        chart.tie(a, b)
    for root in roots:
        chart.root(root)
    return chart


def raised(call, *arguments):
    """The error that a call raises, or None."""
    try:
        call(*arguments)
    except RootpartsError as error:
        return error
    return None


class Histories(unittest.TestCase):
    def check(self, chart, record):
        web, roots = chart.web(), chart.roots()
        self.assertEqual([repr(web), repr(roots)], [repr(record.web()), repr(tuple(record.roots))])
        self.assertEqual(repr(len(chart)), repr(len(record.ties)))

    def check_call(self, chart, record, call):
        """Make the call, which is refused if an error is due, and return whether it was."""
        due = record.due(call)
        error = raised(make, chart, call)
        if due is None:
            self.assertIs(error, None, call)
            record.make(call)
        else:
            kind, held = due
            self.assertIs(type(error), kind, call)
            self.assertEqual(repr({name: getattr(error, name) for name in held}), repr(held), call)
        self.check(chart, record)
        return due is not None

    def test_drawn_histories_beside_a_plain_record(self):
        refused, taken = 0, 0
        for seed in range(24):
            draw = Random(seed)
            n = 1 + seed % 8
            chart, record = Map(n), Record(n)
            self.check(chart, record)
            for _ in range(250):
                refused += self.check_call(chart, record, drawn_call(draw, n))
                if draw.random() < 0.15:
                    told = record.undo()
                    taken += told is not None
                    self.assertEqual(repr(chart.undo()), repr(told))
                    self.check(chart, record)
                if draw.random() < 0.1:
                    self.check_told(chart, record)
            while record.calls:
                self.assertEqual(repr(chart.undo()), repr(record.undo()))
                self.check(chart, record)
            self.assertIs(chart.undo(), None)
            self.assertIs(chart.undo(), None)
            self.assertEqual([chart.web(), chart.roots(), len(chart)], [bare(n), (), 0])
            self.assertTrue(chart == Map(n))
        self.assertGreater(min(refused, taken), 400)

    def check_told(self, chart, record):
        web = record.web()
        self.assertEqual(repr(chart.firmness()), repr(firmness(web) if web[0] > 1 else 0))
        self.assertIs(chart.is_split(), len(told_pieces(web, tuple(range(web[0])))) != 1)
        for sizes in split_sizes(web[0], len(record.roots))[:2] if record.roots else []:
            parts = chart.parts(sizes)
            if parts is not None:
                self.assertTrue(told_parts(web, (tuple(record.roots), sizes), parts))
        self.check(chart, record)

    def test_calls_return_none(self):
        chart = Map(3)
        self.assertEqual([chart.tie(0, 1), chart.untie(1, 0), chart.root(2), chart.unroot(2)], [None] * 4)

    def test_the_places_come_back_as_they_were_handed_in(self):
        chart = Map(4)
        calls = [("tie", 2, 0), ("tie", 0, 3), ("untie", 0, 2), ("root", 3), ("untie", 3, 0), ("unroot", 3), ("tie", 3, 1)]
        for call in calls:
            make(chart, call)
        self.assertEqual(repr([chart.undo() for _ in calls]), repr(calls[::-1]))

    def test_the_place_of_a_root_among_the_roots(self):
        chart = Map(5)
        for root in (3, 0, 4, 1):
            chart.root(root)
        chart.unroot(0)
        self.assertEqual(chart.roots(), (3, 4, 1))
        chart.root(0)
        self.assertEqual(chart.roots(), (3, 4, 1, 0))
        self.assertEqual([chart.undo(), chart.roots()], [("root", 0), (3, 4, 1)])
        self.assertEqual([chart.undo(), chart.roots()], [("unroot", 0), (3, 0, 4, 1)])

    def test_a_call_after_undo_starts_from_there(self):
        chart = Map(3)
        chart.tie(0, 1)
        chart.tie(1, 2)
        chart.undo()
        chart.tie(0, 2)
        self.assertEqual([chart.undo(), chart.undo(), chart.undo()], [("tie", 0, 2), ("tie", 0, 1), None])

    def test_two_maps_do_not_share_anything(self):
        one, other = Map(3), Map(3)
        one.tie(0, 1)
        one.root(1)
        self.assertEqual([other.web(), other.roots(), other.undo()], [bare(3), (), None])


class Refused(unittest.TestCase):
    def check(self, chart, call, kind, **held):
        kept = [chart.web(), chart.roots(), len(chart)]
        error = raised(make, chart, call)
        self.assertIs(type(error), kind, call)
        self.assertEqual(repr({name: getattr(error, name) for name in held}), repr(held))
        self.assertEqual([chart.web(), chart.roots(), len(chart)], kept)

    def test_values_that_are_no_places(self):
        chart = map_of(path(4), (1, 3))
        for value in ODD_PLACES + [4, -2] + odd_values():
            if not (type(value) is int and 0 <= value < 4):
                for word in ("tie", "untie"):
                    self.check(chart, (word, value, 0), InvalidPlace, value=value)
                    self.check(chart, (word, 0, value), InvalidPlace, value=value)
                    self.check(chart, (word, value, value), InvalidPlace, value=value)
                for word in ("root", "unroot"):
                    self.check(chart, (word, value), InvalidPlace, value=value)

    def test_the_first_wrong_place_is_told_first(self):
        chart = Map(3)
        for word in ("tie", "untie"):
            self.check(chart, (word, "a", None), InvalidPlace, value="a")
            self.check(chart, (word, 3, -1), InvalidPlace, value=3)
            self.check(chart, (word, 5, 5), InvalidPlace, value=5)
            self.check(chart, (word, 1, True), InvalidPlace, value=True)
            self.check(chart, (word, True, 1), InvalidPlace, value=True)

    def test_the_same_place(self):
        chart = map_of(full(3), ())
        for word in ("tie", "untie"):
            for place in range(3):
                self.check(chart, (word, place, place), SamePlace, place=place)

    def test_ties_and_roots_that_are_there_or_are_not(self):
        chart = map_of(path(4), (1, 3))
        for a, b in [(0, 1), (1, 0), (3, 2)]:
            self.check(chart, ("tie", a, b), AlreadyTied, a=a, b=b)
        for a, b in [(0, 2), (3, 0), (3, 1)]:
            self.check(chart, ("untie", a, b), NotTied, a=a, b=b)
        for place in (1, 3):
            self.check(chart, ("root", place), AlreadyRoot, place=place)
        for place in (0, 2):
            self.check(chart, ("unroot", place), NotRoot, place=place)

    def test_a_refused_call_is_nothing_that_undo_takes_back(self):
        chart = Map(3)
        chart.tie(0, 1)
        for call in [("tie", 1, 0), ("untie", 1, 2), ("root", 3), ("unroot", 1), ("tie", 2, 2)]:
            self.assertIsNot(raised(make, chart, call), None)
        self.assertIsNot(raised(chart.parts, (3,)), None)
        self.assertEqual([chart.undo(), chart.undo()], [("tie", 0, 1), None])

    def test_each_error_is_one_of_the_package(self):
        self.assertRaises(RootpartsError, Map(1).tie, 0, 0)
        self.assertRaises(ValueError, Map(1).unroot, 0)


class Parts(unittest.TestCase):
    def test_parts_for_the_roots_in_their_order(self):
        both = [0, 0]
        for web in sampled_webs(5, 12, 3) + [ring(5), path(6), star(6)]:
            served = {k: served_deals(web, k) for k in (1, 2, 3)}
            draw = Random(web[0])
            for k in (1, 2, 3):
                for _ in range(3):
                    roots = tuple(draw.sample(range(web[0]), k))
                    chart = map_of(web, roots)
                    for sizes in split_sizes(web[0], k):
                        parts = chart.parts(sizes)
                        self.assertIs(parts is None, (roots, sizes) not in served[k])
                        self.assertTrue(parts is None or told_parts(web, (roots, sizes), parts), (web, roots, sizes))
                        self.assertEqual(repr(chart.parts(sizes)), repr(parts))
                        both[parts is None] += 1
        self.assertGreater(min(both), 50)

    def test_values_that_are_no_sizes(self):
        chart = map_of(RING, (2, 0))
        for value in odd_values() + mutants((3, 1)) + [(4,), (2, 1, 1), (0, 4), (5, -1), [2, 2], (2, True), (2, 3)]:
            error = raised(chart.parts, value)
            if repr(value) in ("(1, 3)", "(2, 2)", "(3, 1)"):
                self.assertIs(error, None, value)
            else:
                self.assertIs(type(error), InvalidSizes, repr(value)[:80])
                self.assertEqual(repr(error.sizes), repr(value))
        self.assertEqual([chart.web(), chart.roots()], [RING, (2, 0)])

    def test_without_roots_no_value_is_sizes(self):
        chart = map_of(RING, ())
        for value in [(), (4,), (1, 3), None, (0,)]:
            self.assertIs(type(raised(chart.parts, value)), InvalidSizes)

    def test_parts_after_calls(self):
        chart = map_of(path(4), (1, 2))
        self.assertEqual([chart.parts((2, 2)), chart.parts((1, 3))], [(0, 0, 1, 1), None])
        chart.tie(0, 3)
        self.assertEqual(chart.parts((1, 3)), (1, 0, 1, 1))
        chart.undo()
        self.assertIs(chart.parts((1, 3)), None)
        chart.unroot(1)
        self.assertEqual(chart.parts((4,)), (0, 0, 0, 0))
        self.assertIs(type(raised(chart.parts, (2, 2))), InvalidSizes)
        chart.root(1)
        self.assertEqual(chart.parts((2, 2)), (1, 1, 0, 0))

    def test_all_places_may_be_roots(self):
        chart = map_of(bare(8), tuple(range(7, -1, -1)))
        self.assertEqual(chart.parts((1,) * 8), tuple(range(7, -1, -1)))
        chart = map_of(bare(1), (0,))
        self.assertEqual(chart.parts((1,)), (0,))


class FirmnessAndPieces(unittest.TestCase):
    def test_known_webs(self):
        for n in range(2, 9):
            self.assertEqual([map_of(full(n), ()).firmness(), map_of(bare(n), (0,)).firmness()], [n - 1, 0])
            self.assertEqual([map_of(full(n), ()).is_split(), map_of(bare(n), (0,)).is_split()], [False, True])
        self.assertEqual([map_of(ring(8), ()).firmness(), map_of(path(8), ()).firmness()], [2, 1])

    def test_one_place(self):
        chart = Map(1)
        self.assertEqual([repr(chart.firmness()), chart.is_split(), chart.web()], ["0", False, (1, ())])

    def test_drawn_webs(self):
        for web in sampled_webs(4, 20, 1) + sampled_webs(7, 20, 2):
            chart = map_of(web, ())
            self.assertEqual(chart.firmness(), firmness(web))
            self.assertIs(chart.is_split(), len(told_pieces(web, tuple(range(web[0])))) > 1)
            chart.firmness()
            self.assertEqual(chart.web(), web)


class EqualityAndLength(unittest.TestCase):
    def test_maps_of_other_histories(self):
        maps = [drawn_map(n, many, seed) for n in (1, 2, 3) for many in (0, 1, 3, 12) for seed in range(6)]
        same = 0
        for (one, first), (other, second) in combinations(maps, 2):
            told = first.web() == second.web() and first.roots == second.roots
            self.assertIs(one == other, told)
            self.assertIs(other == one, told)
            self.assertIs(one != other, not told)
            same += told
        self.assertGreater(same, 20)

    def test_webs_and_roots_both_count(self):
        chart = map_of(path(4), (0, 2))
        other = map_of(path(4), (2, 0))
        self.assertIs(chart == other, False)
        other = Map(4)
        for call in [("root", 0), ("tie", 3, 2), ("tie", 0, 3), ("tie", 2, 1), ("root", 2), ("untie", 3, 0), ("tie", 1, 0)]:
            make(other, call)
        self.assertIs(chart == other, True)
        self.assertIs(chart == map_of(path(4), (0,)), False)
        self.assertIs(chart == map_of(path(5), (0, 2)), False)
        self.assertIs(chart == map_of(star(4), (0, 2)), False)
        self.assertIs(Map(2) == Map(3), False)

    def test_values_that_are_no_maps(self):
        chart = map_of(path(4), (0, 2))
        for value in odd_values() + [path(4), (path(4), (0, 2)), ((0, 2), path(4)), Record(4), "Map"]:
            self.assertIs(chart == value, False)
            self.assertIs(value == chart, False)
            self.assertIs(chart != value, True)
            self.assertIs(Map(1) == value, False)

    def test_length(self):
        chart = Map(8)
        for many, (a, b) in enumerate(combinations(range(8), 2)):
            self.assertEqual(repr(len(chart)), repr(many))
            chart.tie(b, a)
        self.assertEqual(len(chart), 28)
        chart.root(0)
        self.assertEqual(len(chart), 28)
        chart.untie(0, 7)
        self.assertEqual(len(chart), 27)
        chart.undo()
        self.assertEqual(len(chart), 28)
