"""Stage 10: the fewest ties that make a web firm for 2, and bounds."""

import unittest
from itertools import combinations, permutations

from rootparts.fewest import bound_tells, find_bound, find_mending, is_mending, ties_needed
from rootparts.webs import with_tie
from tests.samples import (
    KITE, PATH, RING, STAR, all_ties, bare, every_lot, every_web, full, grid, mutants, odd_values, other_places, path,
    ring, sampled_webs, star, told_cut, told_pieces, two_sides,
)

SMALL = every_web(3) + every_web(4)
FIVE = every_web(5)[::9]
SIX = sampled_webs(6, 40, 10) + [bare(6), full(6), ring(6), path(6), star(6), grid(2, 3), two_sides(2, 4)] + [
    (6, ((0, 1), (2, 3))), (6, ((0, 1), (2, 3), (4, 5))), (6, ((0, 1), (0, 2), (1, 2))), (6, ((4, 5),)),
    (6, ((0, 1), (0, 2), (1, 2), (3, 4), (3, 5), (4, 5))), (6, ((0, 1), (0, 2), (0, 3), (0, 4))),
    (6, ((0, 1), (0, 2), (0, 3), (3, 4), (3, 5))), (6, ((0, 1), (0, 2), (1, 2), (2, 3), (3, 4), (3, 5), (4, 5))),
]


def loose(web):
    return [tie for tie in all_ties(web[0]) if tie not in web[1]]


def told_firm(web):
    """Whether a web of three places or more is firm for 2."""
    return not any(told_cut(web, lot) for lot in [()] + [(place,) for place in range(web[0])])


def told_mending(web, value):
    """Whether the tuple of loose ties, each once and in order, is mending ties."""
    return told_firm((web[0], tuple(sorted(web[1] + value))))


def told_needed(web):
    """The number of the fewest mending ties, by all lots of further ties."""
    many = 0
    while not any(told_mending(web, chosen) for chosen in combinations(loose(web), many)):
        many += 1
    return many


def outer(web, lot):
    near = {a for a, b in web[1] if b in lot} | {b for a, b in web[1] if a in lot}
    return near - set(lot)


def told_bound(web, value):
    """What a bound tells, or None; the value is made of integers, strings and tuples, each where a bound has it."""
    word, told = value
    if word == "pieces":
        many = len(told_pieces(web, other_places(web, (told,))))
        return many - 1 if many > 1 else None
    places = [place for lot in told for place in lot]
    if not told or sorted(set(places)) != sorted(places) or sorted(told) != list(told):
        return None
    total = 0
    for lot in told:
        many = len(outer(web, lot))
        if not lot or many > 1 or web[0] - len(lot) <= many:
            return None
        total += 2 - many
    return total // 2 + total % 2


def every_bound(web):
    """All bounds, each with what it tells."""
    lots = [lot for lot in every_lot(web[0]) if lot and told_bound(web, ("lots", (lot,))) is not None]
    families = [()]
    for lot in sorted(lots):
        families += [family + (lot,) for family in families if not any(set(lot) & set(other) for other in family)]
    values = [("lots", family) for family in families if family] + [("pieces", place) for place in range(web[0])]
    told = [(value, told_bound(web, value)) for value in values]
    return [(value, many) for value, many in told if many is not None]


class FewestTies(unittest.TestCase):
    def check(self, web):
        needed = told_needed(web)
        self.assertEqual(repr(ties_needed(web)), repr(needed), web)
        mending = find_mending(web)
        self.assertIsInstance(mending, tuple)
        self.assertEqual(len(mending), needed, (web, mending))
        self.assertTrue(set(mending) <= set(loose(web)) and sorted(set(mending)) == list(mending), (web, mending))
        self.assertTrue(told_mending(web, mending), (web, mending))
        self.assertIs(is_mending(web, mending), True)
        bound = find_bound(web)
        if told_firm(web):
            self.assertIs(bound, None, web)
            self.assertEqual(mending, ())
        else:
            self.assertEqual(told_bound(web, bound), needed, (web, bound))
            self.assertEqual(repr(bound_tells(web, bound)), repr(needed), (web, bound))
        return needed

    def test_small_webs(self):
        self.assertEqual(set(map(self.check, SMALL)), {0, 1, 2, 3, 4})

    def test_webs_of_five_places(self):
        self.assertEqual(set(map(self.check, FIVE)), {0, 1, 2, 3, 4, 5})

    def test_webs_of_six_places(self):
        self.assertEqual(set(map(self.check, SIX)), {0, 1, 2, 3, 4, 5, 6})

    def test_known_webs(self):
        for n in range(3, 7):
            self.assertEqual([ties_needed(bare(n)), ties_needed(path(n)), ties_needed(ring(n))], [n, 1, 0])
            self.assertEqual(ties_needed(star(n)), n - 2)
            self.assertEqual(ties_needed(full(n)), 0)
        self.assertEqual(find_mending(path(6)), ((0, 5),))
        self.assertEqual([ties_needed(KITE), find_mending(RING)], [1, ()])

    def test_both_kinds_of_bounds_are_needed(self):
        # A star of ties between four rays is held by its middle, two rings by the number of their ends.
        self.assertEqual(find_bound(star(6)), ("pieces", 0))
        self.assertEqual(find_bound(bare(6))[0], "lots")
        self.assertEqual(find_bound((6, ((0, 1), (0, 2), (1, 2), (3, 4), (3, 5), (4, 5))))[0], "lots")

    def test_each_tie_more_is_needed_no_more_than_before(self):
        for web in SIX[::3]:
            for a, b in loose(web):
                self.assertIn(ties_needed(web) - ties_needed(with_tie(web, a, b)), (0, 1))

    def test_somewhat_beyond_the_limits(self):
        for web in (path(7), star(8), bare(7), ring(9)):
            self.assertTrue(told_mending(web, find_mending(web)))
            self.assertEqual(len(find_mending(web)), ties_needed(web))
        for web in (bare(1), bare(2), full(2)):
            self.assertIsInstance(find_mending(web), tuple)
            self.assertIs(is_mending(web, ()), False)


class IsMending(unittest.TestCase):
    def test_all_lots_of_further_ties(self):
        rights = 0
        for web in SMALL + FIVE[20:60:9]:
            for many in range(len(loose(web)) + 1):
                for chosen in combinations(loose(web), many):
                    right = told_mending(web, chosen)
                    self.assertIs(is_mending(web, chosen), right, (web, chosen))
                    rights += right
        self.assertGreater(rights, 100)

    def test_ties_turned_doubled_or_already_there(self):
        self.assertIs(is_mending(STAR, ((1, 2), (2, 3))), True)
        for value in [
            ((2, 3), (1, 2)), ((2, 1), (2, 3)), ((1, 2), (3, 2)), ((1, 2), (1, 2), (2, 3)), ((1, 2), (2, 3), (2, 3)),
            ((0, 1), (1, 2), (2, 3)), ((1, 2), (2, 2), (2, 3)), ((1, 2), (2, 3), (3, 4)), ((-1, 2), (1, 2), (2, 3)),
            [(1, 2), (2, 3)], ([1, 2], [2, 3]), ((1, 2), (2, 3, 4)), ((1, 2),), (), ((1, 2), None), (1, 2, 2, 3),
            ((1, 2), (2, 3), (2, 10 ** 99)), {(1, 2): 0, (2, 3): 0},
        ]:
            self.assertIs(is_mending(STAR, value), False, value)
        self.assertIs(is_mending(STAR, ((1, 2), (1, 3), (2, 3))), True)

    def test_bools_are_no_places(self):
        web = (4, ((0, 2), (0, 3), (1, 2)))
        self.assertIs(is_mending(web, ((1, 3),)), True)
        self.assertIs(is_mending(web, ((True, 3),)), False)
        self.assertIs(is_mending((3, ()), ((0, 1), (0, 2), (1, 2))), True)
        for value in [((0, True), (0, 2), (1, 2)), ((0, 1), (False, 2), (1, 2)), ((0, 1), (0, 2), (True, 2))]:
            self.assertIs(is_mending((3, ()), value), False)

    def test_a_firm_web(self):
        self.assertIs(is_mending(RING, ()), True)
        self.assertIs(is_mending(RING, ((0, 2),)), True)
        self.assertIs(is_mending(RING, ((0, 1),)), False)
        self.assertIs(is_mending(full(4), ()), True)
        self.assertIs(is_mending(full(4), ((0, 1),)), False)

    def test_odd_values_and_changed_ties(self):
        for web in (STAR, PATH, RING, bare(3), KITE):
            right = {
                repr(chosen) for many in range(len(loose(web)) + 1) for chosen in combinations(loose(web), many)
                if told_mending(web, chosen)
            }
            for value in odd_values() + mutants(find_mending(web)):
                self.assertIs(is_mending(web, value), repr(value) in right, repr(value)[:100])


class Bounds(unittest.TestCase):
    def test_all_bounds_of_small_webs(self):
        for web in SMALL + FIVE[::4]:
            needed = ties_needed(web)
            best = 0
            for value, many in every_bound(web):
                self.assertEqual(repr(bound_tells(web, value)), repr(many), (web, value))
                self.assertLessEqual(many, needed, (web, value))
                best = max(best, many)
            self.assertEqual(best, needed, web)

    def test_all_values_like_bounds(self):
        for web in SMALL[::5] + [STAR, PATH, bare(3)]:
            lots = every_lot(web[0])
            for many in range(4 if web[0] == 3 else 3):
                for told in permutations(lots, many):
                    value = ("lots", told)
                    self.assertEqual(repr(bound_tells(web, value)), repr(told_bound(web, value)), (web, value))
            for place in range(web[0]):
                value = ("pieces", place)
                self.assertEqual(repr(bound_tells(web, value)), repr(told_bound(web, value)), (web, value))

    def test_lots(self):
        web = path(5)
        for told, many in [
            (((0,), (4,)), 1), (((0,),), 1), (((0, 1), (3, 4)), 1), (((0, 1, 2), (4,)), 1), (((0, 1, 2),), 1),
            # Lots that touch are no bar to a bound, but they may have no place in common.
            (((0, 1), (2, 3, 4)), 1), (((0, 1), (1, 2)), None), (((0,), (0, 1)), None),
            # Only the neighbour is left out, or two neighbours are there, or none at all.
            (((0, 1, 2, 3),), None), (((1,),), None), (((1, 2, 3),), None), (((0, 4),), None), (((0, 1, 2, 3, 4),), None),
            (((4,), (0,)), None), (((0,), (0,)), None), ((), None), (((),), None), (((), (0,)), None),
            (((1, 0),), None), (((0, 0),), None), (((0,), (5,)), None), (((-1,), (0,)), None),
        ]:
            self.assertEqual(repr(bound_tells(web, ("lots", told))), repr(many), told)

    def test_the_half_is_rounded_up(self):
        web = (6, ((0, 1), (0, 2), (0, 3), (3, 4), (3, 5)))
        for told, many in [(((1,),), 1), (((1,), (2,)), 1), (((1,), (2,), (4,)), 2), (((1,), (2,), (4,), (5,)), 2)]:
            self.assertEqual(bound_tells(web, ("lots", told)), many)
        for many in range(1, 7):
            self.assertEqual(bound_tells(bare(6), ("lots", tuple((place,) for place in range(many)))), many)
        web = (4, ((0, 1), (1, 2)))
        self.assertEqual(bound_tells(web, ("lots", ((0,), (2,), (3,)))), 2)
        self.assertEqual(bound_tells(web, ("lots", ((0,), (3,)))), 2)
        self.assertEqual(bound_tells(web, ("lots", ((0, 1, 2), (3,)))), 2)

    def test_pieces(self):
        self.assertEqual([bound_tells(star(6), ("pieces", place)) for place in range(6)], [4] + [None] * 5)
        self.assertEqual([bound_tells(bare(4), ("pieces", place)) for place in range(4)], [2] * 4)
        for told in (6, -6, True, False, None, "0", (0,), [0], 10 ** 99, {}):
            self.assertIs(bound_tells(star(6), ("pieces", told)), None)
        for word in ("piece", "Pieces", "lots", "", None, 0, ("pieces",), ["pieces"]):
            self.assertIs(bound_tells(star(6), (word, 0)), None)
        for value in [("pieces",), ("pieces", 0, 0), ["pieces", 0], "pieces", {"pieces": 0}, (0, "pieces")]:
            self.assertIs(bound_tells(star(6), value), None)

    def test_bools_are_no_places(self):
        self.assertEqual(bound_tells(bare(3), ("lots", ((0,), (1,), (2,)))), 3)
        self.assertIs(bound_tells(bare(3), ("lots", ((False,), (1,), (2,)))), None)
        self.assertIs(bound_tells(bare(3), ("lots", ((0,), (True,), (2,)))), None)
        self.assertEqual(bound_tells((3, ((0, 1), (1, 2))), ("pieces", 1)), 1)
        self.assertIs(bound_tells((3, ((0, 1), (1, 2))), ("pieces", True)), None)

    def test_odd_values_and_changed_bounds(self):
        for web in (STAR, PATH, KITE, bare(3), (4, ((0, 1), (1, 2)))):
            right = {repr(value): many for value, many in every_bound(web)}
            seen = set()
            values = [value for value, _ in every_bound(web)]
            for value in odd_values() + [changed for value in values[::3] + values[-1:] for changed in mutants(value)]:
                told = bound_tells(web, value)
                self.assertEqual(repr(told), repr(right.get(repr(value))), repr(value)[:100])
                seen.add(told)
            self.assertGreater(len(seen), 1)

    def test_a_firm_web_has_no_bound(self):
        for web in (RING, full(3), full(6), two_sides(2, 4), grid(2, 3)):
            self.assertEqual(every_bound(web), [])
            for lot in every_lot(web[0]):
                self.assertIs(bound_tells(web, ("lots", (lot,))), None)
