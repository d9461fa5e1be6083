"""Stage 1: webs, lots and pieces."""

import unittest
from copy import deepcopy

from rootparts.webs import hangs, is_lot, is_web, loose_ties, neighbours, piece_of, pieces, with_tie
from tests.samples import (
    KITE, PATH, RING, STAR, all_ties, bare, every_lot, every_web, full, mutants, odd_values, told_pieces,
)

SMALL = [web for n in range(1, 5) for web in every_web(n)]
LARGE = [
    bare(12), full(12), full(11),
    (12, tuple((at, at + 1) for at in range(11))),
    (12, tuple((0, at) for at in range(1, 12))),
    (12, ((0, 11), (1, 10), (2, 9), (3, 8), (9, 11))),
    (7, ((0, 6), (1, 5), (2, 6), (3, 4), (4, 5))),
    KITE,
]


class IsWeb(unittest.TestCase):
    def test_webs(self):
        for web in SMALL + LARGE + [RING, PATH, STAR]:
            self.assertIs(is_web(web), True, web)

    def test_least_and_greatest_number_of_places(self):
        for n in range(1, 13):
            self.assertIs(is_web(bare(n)), True, n)
            self.assertIs(is_web(full(n)), True, n)
        for n in (0, -1, -12, 13, 14, 10 ** 99, -(10 ** 99)):
            self.assertIs(is_web((n, ())), False, n)
            self.assertIs(is_web((n, ((0, 1),))), False, n)
        self.assertIs(is_web(full(13)), False)

    def test_ties_that_are_none(self):
        for tie in [
            (1, 0), (0, 0), (2, 2), (-1, 0), (-2, -1), (0, 3), (2, 3), (3, 4), (0, 12), (0,), (0, 1, 2), (),
            [0, 1], "01", {0: 1}, None, 0, (0, "1"), (0, None), ((0,), 1), (0, (1,)), (False, 1), (0, True), (False, True),
        ]:
            self.assertIs(is_web((3, (tie,))), False, tie)
            self.assertIs(is_web((3, ((0, 1), tie))), False, tie)
            self.assertIs(is_web((3, (tie, (1, 2)))), False, tie)

    def test_ties_doubled_or_out_of_order(self):
        for ties in [((0, 1), (0, 1)), ((0, 2), (0, 1)), ((1, 2), (0, 1)), ((0, 1), (1, 2), (0, 2)), ((0, 1), (0, 2), (0, 2))]:
            self.assertIs(is_web((3, ties)), False, ties)

    def test_bools_and_other_values_for_the_number_of_places(self):
        for n in (True, False, None, "1", (1,), [1], {1: 1}, ""):
            self.assertIs(is_web((n, ())), False, n)

    def test_lists_and_other_values_for_tuples(self):
        for value in [[1, ()], (1, []), (1, {}), (1, ""), (1, None), (1, 0), (2, [(0, 1)]), (2, ([0, 1],)), (1,), (1, (), ())]:
            self.assertIs(is_web(value), False, value)

    def test_odd_values(self):
        for value in odd_values():
            self.assertIs(is_web(value), False, repr(value)[:80])

    def test_webs_changed_at_one_place(self):
        # Told apart by repr: True is not 1 there, and no list is a tuple.
        right = {repr(web) for web in SMALL}
        tried = 0
        for web in SMALL[::3] + [RING, PATH, STAR]:
            for value in mutants(web):
                self.assertIs(is_web(value), repr(value) in right or is_small_change(value), value)
                tried += 1
        self.assertGreater(tried, 10000)


def is_small_change(value):
    """Whether only the number of places was raised, to 5, in a web of four."""
    return isinstance(value, tuple) and value[:1] == (5,) and value[1:] in [web[1:] for web in SMALL]


class IsLot(unittest.TestCase):
    def test_all_small_lots(self):
        for n in range(1, 6):
            for lot in every_lot(n):
                self.assertIs(is_lot(n, lot), True, (n, lot))

    def test_the_empty_lot_and_the_lot_of_all_places(self):
        for n in range(1, 13):
            self.assertIs(is_lot(n, ()), True, n)
            self.assertIs(is_lot(n, tuple(range(n))), True, n)

    def test_place_of_another_web(self):
        for n in range(1, 13):
            self.assertIs(is_lot(n, (n,)), False, n)
            self.assertIs(is_lot(n, tuple(range(n + 1))), False, n)
            self.assertIs(is_lot(n, (-1,)), False, n)
            self.assertIs(is_lot(n, (-1,) + tuple(range(n))), False, n)

    def test_out_of_order_or_twice(self):
        for value in [(1, 0), (0, 2, 1), (2, 1, 0), (0, 0), (0, 1, 1), (0, 0, 1), (3, 3), (0, 1, 0)]:
            self.assertIs(is_lot(4, value), False, value)

    def test_bools_and_other_items(self):
        for value in [
            (True,), (False,), (False, 1), (0, True), (False, True), (0, None), (None,), ("0",), (0, "a"), ((0,),),
            ([0],), (0, {}), ([],), (10 ** 99,), ("a", 0), (None, None), ({}, {}),
        ]:
            self.assertIs(is_lot(4, value), False, value)

    def test_other_values(self):
        for value in [None, True, False, 0, 1, "", "0", "01", [], [0], [0, 1], {}, {0: 1}]:
            self.assertIs(is_lot(4, value), False, value)

    def test_odd_values_and_changed_lots(self):
        right = {repr(lot) for lot in every_lot(4)}
        values = odd_values()
        for lot in every_lot(4):
            values += mutants(lot)
        for value in values:
            self.assertIs(is_lot(4, value), repr(value) in right, repr(value)[:80])


class Neighbours(unittest.TestCase):
    def test_all_small_webs_and_large_ones(self):
        for web in SMALL + LARGE:
            for place in range(web[0]):
                told = tuple(
                    other for other in range(web[0]) if (place, other) in web[1] or (other, place) in web[1]
                )
                self.assertEqual(repr(neighbours(web, place)), repr(told), (web, place))

    def test_lesser_and_greater_neighbours_in_ascending_order(self):
        self.assertEqual(neighbours((5, ((0, 4), (1, 2), (2, 3), (2, 4))), 2), (1, 3, 4))
        self.assertEqual(neighbours(full(12), 5), (0, 1, 2, 3, 4, 6, 7, 8, 9, 10, 11))

    def test_a_place_without_ties(self):
        self.assertEqual(neighbours(bare(1), 0), ())
        self.assertEqual(neighbours((3, ((0, 2),)), 1), ())


class Pieces(unittest.TestCase):
    def check(self, web, lot):
        told = told_pieces(web, lot)
        self.assertEqual(repr(pieces(web, lot)), repr(told), (web, lot))
        self.assertIs(hangs(web, lot), len(told) == 1, (web, lot))
        for place in lot:
            mine = [piece for piece in told if place in piece]
            self.assertEqual(repr([piece_of(web, lot, place)]), repr(mine), (web, lot, place))

    def test_all_lots_of_small_webs(self):
        for web in SMALL:
            for lot in every_lot(web[0]):
                self.check(web, lot)

    def test_lots_of_large_webs(self):
        for web in LARGE:
            for lot in every_lot(web[0])[::37] + [tuple(range(web[0]))]:
                self.check(web, lot)

    def test_the_empty_lot(self):
        for web in SMALL[::5] + LARGE:
            self.assertEqual(pieces(web, ()), ())
            self.assertIs(hangs(web, ()), False)

    def test_one_place(self):
        self.assertEqual(pieces(bare(1), (0,)), ((0,),))
        self.assertEqual(piece_of(full(12), (7,), 7), (7,))
        self.assertIs(hangs(bare(12), (11,)), True)

    def test_a_way_through_a_place_outside_the_lot_does_not_reach(self):
        self.assertEqual(piece_of(PATH, (0, 2, 3), 0), (0,))
        self.assertEqual(piece_of(PATH, (0, 2, 3), 3), (2, 3))
        self.assertIs(hangs(STAR, (1, 2)), False)
        self.assertIs(hangs(STAR, (0, 1, 2)), True)

    def test_a_long_piece_whose_places_are_reached_out_of_order(self):
        web = (12, tuple(sorted([(0, 11), (1, 11), (1, 10), (2, 10), (2, 9), (3, 9), (3, 8), (4, 8), (4, 7)])))
        lot = (0, 1, 2, 3, 4, 5, 7, 8, 9, 10, 11)
        self.assertEqual(pieces(web, lot), ((0, 1, 2, 3, 4, 7, 8, 9, 10, 11), (5,)))
        self.assertEqual(piece_of(web, lot, 7), (0, 1, 2, 3, 4, 7, 8, 9, 10, 11))


class Ties(unittest.TestCase):
    def test_with_tie_both_ways_round(self):
        for web in SMALL:
            for a, b in all_ties(web[0]):
                told = (web[0], tuple(sorted({*web[1], (a, b)})))
                self.assertEqual(repr(with_tie(web, a, b)), repr(told), (web, a, b))
                self.assertEqual(repr(with_tie(web, b, a)), repr(told), (web, b, a))

    def test_with_a_tie_that_is_there_already(self):
        for web in [PATH, RING, STAR, KITE, full(12)]:
            for a, b in web[1]:
                self.assertEqual(repr(with_tie(web, a, b)), repr(web))
                self.assertEqual(repr(with_tie(web, b, a)), repr(web))

    def test_with_tie_first_last_and_between(self):
        web = (12, ((3, 4), (5, 6)))
        self.assertEqual(with_tie(web, 1, 0), (12, ((0, 1), (3, 4), (5, 6))))
        self.assertEqual(with_tie(web, 5, 3), (12, ((3, 4), (3, 5), (5, 6))))
        self.assertEqual(with_tie(web, 11, 10), (12, ((3, 4), (5, 6), (10, 11))))

    def test_loose_ties(self):
        for web in SMALL + LARGE:
            told = tuple(tie for tie in all_ties(web[0]) if tie not in web[1])
            self.assertEqual(repr(loose_ties(web)), repr(told), web)

    def test_loose_ties_of_all_and_of_none(self):
        for n in range(1, 13):
            self.assertEqual(loose_ties(full(n)), (), n)
            self.assertEqual(loose_ties(bare(n)), all_ties(n), n)


class Arguments(unittest.TestCase):
    def test_no_call_changes_its_arguments(self):
        for value in odd_values() + [[2, [[0, 1]]], (2, [(0, 1)]), (3, ({0: [1]},)), [[0], {1: [2]}]]:
            kept = deepcopy(value)
            is_web(value)
            is_lot(4, value)
            self.assertEqual(repr(value), repr(kept))

    def test_one_call_does_not_change_the_answer_of_the_next(self):
        for _ in range(2):
            self.assertEqual(with_tie(PATH, 0, 2), (4, ((0, 1), (0, 2), (1, 2), (2, 3))))
            self.assertEqual(pieces(PATH, (0, 1, 3)), ((0, 1), (3,)))
            self.assertEqual(loose_ties(PATH), ((0, 2), (0, 3), (1, 3)))
            self.assertEqual(PATH, (4, ((0, 1), (1, 2), (2, 3))))
