"""The examples of the document, word for word."""

import unittest
from doctest import DocTestParser, DocTestRunner
from inspect import signature

from rootparts import (
    cuts, deals, errors, fewest, firmness, frees, maplogs, maps, moves, orders, papers, services, trees, webs, weights,
)
from tests import samples

WEBS = r"""
    >>> RING = (4, ((0, 1), (0, 3), (1, 2), (2, 3)))
    >>> PATH = (4, ((0, 1), (1, 2), (2, 3)))
    >>> STAR = (4, ((0, 1), (0, 2), (0, 3)))
    >>> KITE = (5, ((0, 1), (0, 2), (1, 2), (1, 3), (2, 3), (3, 4)))
"""

STAGE_1 = r"""
    >>> [is_web(RING), is_web((2, ((1, 0),))), is_web((1, ())), is_lot(4, (0, 2)), is_lot(4, (2, 0)), neighbours(KITE, 3)]
    [True, False, True, True, False, (1, 2, 4)]
    >>> [piece_of(KITE, (0, 1, 4), 0), pieces(KITE, (0, 1, 4)), hangs(KITE, (1, 3, 4)), hangs(KITE, ()), pieces(STAR, (1, 2, 3))]
    [(0, 1), ((0, 1), (4,)), True, False, ((1,), (2,), (3,))]
    >>> [with_tie(PATH, 3, 0), with_tie(PATH, 1, 0) == PATH, loose_ties(PATH)]
    [(4, ((0, 1), (0, 3), (1, 2), (2, 3))), True, ((0, 2), (0, 3), (1, 3))]
"""

STAGE_2 = r"""
    >>> [is_deal(RING, ((0, 2), (3, 1))), is_deal(RING, ((0, 0), (2, 2))), is_deal(RING, ((0,), (3,)))]
    [True, False, False]
    >>> [is_parts(RING, ((0, 2), (3, 1)), (0, 0, 1, 0)), is_parts(RING, ((0, 2), (2, 2)), (0, 0, 1, 1)), is_parts(PATH, ((0, 1), (2, 2)), (0, 1, 0, 1))]
    [True, True, False]
    >>> [part_of((0, 0, 1, 0), 0), every_sizes(4, 2), every_sizes(2, 3), border(RING, (0, 0, 1, 1))]
    [(0, 1, 3), [(1, 3), (2, 2), (3, 1)], [], ((0, 3), (1, 2))]
"""

STAGE_3 = r"""
    >>> [first_state(RING, ((0, 2), (3, 1))), room_of(RING, ((0, 2), (2, 2)), (0, -1, 1, -1), 0), room_of(PATH, ((0, 2), (2, 2)), (0, -1, 1, -1), 1)]
    [(0, -1, 1, -1), (0, 1, 3), (1, 2, 3)]
    >>> [find_parts(RING, ((0, 2), (3, 1))), find_parts(PATH, ((0, 2), (3, 1))), find_tree(RING, ((0, 2), (3, 1)))]
    [(0, 0, 1, 0), None, None]
    >>> [is_tree(PATH, ((0, 2), (3, 1)), ('short', 0)), is_tree(PATH, ((0, 2), (2, 2)), ('short', 0)), is_tree(STAR, ((0, 1), (1, 3)), ('lost', 2))]
    [True, False, True]
    >>> is_tree(STAR, ((0, 1), (1, 3)), ('cases', 2, (('full', 0), ('short', 1))))
    True
    >>> [leaves(('cases', 2, (('full', 0), ('short', 1)))), leaves(('short', 0)), is_tree(STAR, ((0, 1), (1, 3)), ('short', 1))]
    [2, 1, True]
"""

STAGE_4 = r"""
    >>> [is_cut(RING, (0, 2)), is_cut(RING, (0, 1)), is_cut(PATH, (1,)), is_cut(PATH, (0,)), is_cut((2, ()), ())]
    [True, False, True, False, True]
    >>> [is_way(RING, 0, 2, (0, 3, 2)), is_way(RING, 0, 2, (0, 2)), ways_apart(PATH, 0, 3), parting_lot(RING, 0, 2), len(ways_apart(KITE, 0, 3))]
    [True, False, ((0, 1, 2, 3),), (1, 3), 2]
    >>> [find_cut(RING, 2), find_cut(PATH, 1), find_cut(KITE, 2), find_paper(KITE, 2)]
    [None, None, (3,), None]
    >>> is_paper(RING, 2, {(0, 2): ((0, 1, 2), (0, 3, 2)), (1, 3): ((1, 2, 3), (1, 0, 3))})
    True
"""

STAGE_5 = r"""
    >>> [is_firm(RING, 2), is_firm(RING, 3), is_firm(PATH, 2), firmness(RING), firmness(KITE), firmness((3, ((0, 1),))), firmness((3, ((0, 1), (0, 2), (1, 2))))]
    [True, False, False, 2, 1, 0, 2]
    >>> [is_bar(PATH, 2, ((1, 0), (1, 3))), is_bar(PATH, 2, ((0, 1), (1, 3))), is_bar(RING, 3, ((0, 2, 1), (1, 1, 2))), find_bar(RING, 2)]
    [True, False, True, None]
    >>> [find_parts(PATH, ((1, 0), (1, 3))), find_tree(PATH, ((1, 0), (1, 3))) is None, bar_of(KITE, 2, (3,))[0][0]]
    [None, False, 3]
"""

STAGE_6 = r"""
    >>> [is_order(RING, 0, 2, (0, 1, 3, 2)), is_order(RING, 0, 1, (0, 3, 2, 1)), is_order(PATH, 0, 3, (0, 2, 1, 3)), find_order(PATH, 0, 3), find_order(PATH, 0, 2)]
    [True, True, False, (0, 1, 2, 3), None]
    >>> [is_loose(PATH, 0, 2, (2, (3,))), is_loose(KITE, 0, 1, (3, (4,))), is_loose(KITE, 0, 4, (3, (1, 2))), find_loose(RING, 0, 2)]
    [True, True, False, None]
    >>> [parts_by_order((0, 1, 3, 2), 3), parts_by_order((0, 1, 3, 2), 1)]
    [(0, 0, 1, 0), (0, 1, 1, 1)]
"""

STAGE_7 = r"""
    >>> [weight_of((5, 1, 2, 4), (0, 3)), weighted_size((5, 1, 2, 4), (0, 1, 3, 2), 7), weighted_size((5, 1, 2, 4), (0, 1, 3, 2), 5)]
    [9, 2, 1]
    >>> [even_size((5, 1, 2, 4), (0, 1, 3, 2)), every_cut_weight((5, 1, 2, 4), (0, 1, 3, 2))]
    [2, [(5, 7), (6, 6), (10, 2)]]
"""

STAGE_8 = r"""
    >>> [find_free(STAR, (2, 2)), is_free(STAR, (1, 3), (1, 0, 1, 1)), is_free(STAR, (1, 3), (0, 1, 1, 1)), roots_of((1, 0, 1, 1), 2)]
    [None, True, False, (1, 0)]
    >>> [served_roots(STAR, (3, 1)), served_roots(STAR, (2, 2)), find_table(RING, (2, 2))]
    [[(0, 1), (0, 2), (0, 3), (1, 2), (1, 3), (2, 1), (2, 3), (3, 1), (3, 2)], [], None]
    >>> is_table((3, ()), (1, 2), {(a, b): ('short', 1) for a in range(3) for b in range(3) if a != b})
    True
"""

STAGE_9 = r"""
    >>> FROM = (0, 0, 1, 0)
    >>> TO = (0, 1, 1, 1)
    >>> WIDE = ((1, 3), (1, 3))
    >>> [is_standing(RING, (0, 2), WIDE, FROM), is_standing(RING, (0, 2), ((1, 2), (1, 3)), FROM), len(standings(RING, (0, 2), WIDE))]
    [True, False, 4]
    >>> [moves_of(RING, (0, 2), WIDE, FROM), len(find_row(RING, (0, 2), WIDE, FROM, TO)), find_shut(RING, (0, 2), WIDE, FROM, TO)]
    [[(0, 0, 1, 1), (0, 1, 1, 0)], 3, None]
    >>> TIGHT = ((2, 2), (2, 2))
    >>> [find_row(RING, (0, 2), TIGHT, (0, 0, 1, 1), (0, 1, 1, 0)), find_shut(RING, (0, 2), TIGHT, (0, 0, 1, 1), (0, 1, 1, 0))]
    [None, ((0, 0, 1, 1),)]
"""

STAGE_10 = r"""
    >>> [ties_needed(RING), ties_needed(PATH), ties_needed(STAR), ties_needed((3, ())), find_mending(PATH)]
    [0, 1, 2, 3, ((0, 3),)]
    >>> [is_mending(STAR, ((1, 2), (2, 3))), is_mending(STAR, ((1, 2),)), bound_tells(STAR, ('pieces', 0)), bound_tells(STAR, ('lots', ((1,), (2,), (3,))))]
    [True, False, 2, 2]
    >>> [bound_tells(PATH, ('lots', ((0,), (3,)))), bound_tells(PATH, ('lots', ((1,),))), bound_tells((3, ()), ('lots', ((0,), (1,), (2,)))), find_bound(RING)]
    [1, None, 3, None]
"""

STAGE_11 = r"""
    >>> [served_sizes(PATH, (0, 2)), served_sizes(PATH, (0, 3)), served_sizes(RING, (0, 2)), find_want(RING, (0, 2))]
    [[(1, 3), (2, 2)], [(1, 3), (2, 2), (3, 1)], [(1, 3), (2, 2), (3, 1)], None]
    >>> [find_service(PATH, (0, 3)), service_by_order((0, 1, 3, 2))]
    [{(1, 3): (0, 1, 1, 1), (2, 2): (0, 0, 1, 1), (3, 1): (0, 0, 0, 1)}, {(1, 3): (0, 1, 1, 1), (2, 2): (0, 0, 1, 1), (3, 1): (0, 0, 1, 0)}]
    >>> [is_want(PATH, (0, 2), ((3, 1), ('short', 0))), is_want(PATH, (0, 2), ((2, 2), ('short', 0)))]
    [True, False]
"""

STAGE_12 = r"""
    >>> chart = Map(4)
    >>> [chart.tie(0, 1), chart.tie(2, 1), chart.tie(2, 3), chart.root(2), chart.root(0), chart.web() == PATH, chart.roots(), len(chart)]
    [None, None, None, None, None, True, (2, 0), 3]
    >>> [chart.parts((3, 1)), chart.parts((1, 3)), chart.firmness(), chart.is_split()]
    [(1, 0, 0, 0), None, 1, False]
    >>> chart.tie(1, 0)
    raises AlreadyTied(1, 0)
    >>> chart.parts((4,))
    raises InvalidSizes((4,))
    >>> [chart.undo(), chart.unroot(2), chart.undo(), chart.undo(), chart.undo(), chart.roots(), chart.web()]
    [('root', 0), None, ('unroot', 2), ('root', 2), ('tie', 2, 3), (), (4, ((0, 1), (1, 2)))]
"""

STAGE_13 = r"""
    >>> chart = Map(3)
    >>> [chart.tie(2, 0), chart.root(1)]
    [None, None]
    >>> map_log(chart)
    [(('tie', 2, 0), 1, ()), (('root', 1), 1, (1,))]
    >>> [first_map_fault(3, map_log(chart)), first_map_fault(2, map_log(chart)), first_map_fault(3, [(('tie', 2, 0), True, ())]), is_map_log(3, [])]
    [None, 0, 0, True]
    >>> [resumed_map(3, map_log(chart)) == chart, webs_of_log(3, map_log(chart))]
    [True, [(3, ((0, 2),)), (3, ((0, 2),))]]
"""

STAGE_14 = r"""
    >>> write_web((3, ((0, 1), (0, 2), (1, 2))), (0, 0, 1))
    'places 3\ntie 0 1\ntie 0 2\ntie 1 2\nparts 0 0 1\n'
    >>> [read_web('places 2\n'), read_web('places 2\ntie 0 1\nparts 1 11\n')]
    [((2, ()), None), ((2, ((0, 1),)), (1, 11))]
    >>> [is_text('places 2\ntie 1 0\n'), is_text('places 2\nparts 0\n'), is_text('places 02\n'), is_text('places 2'), is_text(None), is_text('places 2\nparts 0 1\ntie 0 1\n')]
    [False, False, False, False, False, False]
    >>> read_web('places 13\n')
    raises InvalidText('places 13\n')
"""


class Told:
    """Shown as the document shows that a call raises an error."""

    def __init__(self, text):
        self.text = text

    def __repr__(self):
        return self.text


def told_error(call):
    try:
        call()
    except errors.RootpartsError as error:
        names = list(signature(error.__class__.__init__).parameters)[1:]
        shown = [repr(getattr(error, name)) for name in names]
        return Told("raises " + error.__class__.__name__ + "(" + ", ".join(shown) + ")")
    return Told("raises nothing")


class Examples(unittest.TestCase):
    def run_text(self, text, module, many, **further):
        names = {name: getattr(module, name) for name in dir(module) if not name.startswith("_")}
        names.update(further)
        test = DocTestParser().get_doctest(WEBS + text, names, module.__name__, None, 0)
        self.assertEqual(len(test.examples), 4 + many)
        for example in test.examples:
            if example.want.startswith("raises "):
                example.source = "told_error(lambda: " + example.source.strip() + ")\n"
        test.globs["told_error"] = told_error
        told = []
        failed = DocTestRunner(verbose=False).run(test, out=told.append).failed
        self.assertEqual(failed, 0, "".join(told))

    def test_stage_1(self):
        self.run_text(STAGE_1, webs, 3)

    def test_stage_2(self):
        self.run_text(STAGE_2, deals, 3)

    def test_stage_3(self):
        self.run_text(STAGE_3, trees, 5)

    def test_stage_4(self):
        self.run_text(STAGE_4, cuts, 4)

    def test_stage_5(self):
        self.run_text(STAGE_5, firmness, 3, find_parts=trees.find_parts, find_tree=trees.find_tree)

    def test_stage_6(self):
        self.run_text(STAGE_6, orders, 3)

    def test_stage_7(self):
        self.run_text(STAGE_7, weights, 2)

    def test_stage_8(self):
        self.run_text(STAGE_8, frees, 3)

    def test_stage_9(self):
        self.run_text(STAGE_9, moves, 7)

    def test_stage_10(self):
        self.run_text(STAGE_10, fewest, 3)

    def test_stage_11(self):
        self.run_text(STAGE_11, services, 3)

    def test_stage_12(self):
        self.run_text(STAGE_12, maps, 6)

    def test_stage_13(self):
        self.run_text(STAGE_13, maplogs, 5)

    def test_stage_14(self):
        self.run_text(STAGE_14, papers, 4)

    def test_sample_webs_are_those_of_the_document(self):
        names = {}
        for example in DocTestParser().get_examples(WEBS):
            exec(example.source, names)
        for name in ("RING", "PATH", "STAR", "KITE"):
            self.assertEqual(names[name], getattr(samples, name))
