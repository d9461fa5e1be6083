"""The examples of the document, word for word."""

import unittest
from doctest import DocTestParser, DocTestRunner

from rootparts import deals, webs
from tests import samples

WEBS = r"""
    >>> RING = (4, ((0, 1), (0, 3), (1, 2), (2, 3)))
    >>> PATH = (4, ((0, 1), (1, 2), (2, 3)))
    >>> STAR = (4, ((0, 1), (0, 2), (0, 3)))
    >>> KITE = (5, ((0, 1), (0, 2), (1, 2), (1, 3), (2, 3), (3, 4)))
"""

STAGE_1 = r"""
    >>> [is_web(RING), is_web((2, ((1, 0),))), is_web((1, ())), is_lot(4, (0, 2)), is_lot(4, (2, 0)), neighbours(KITE, 3)]
    [True, False, True, True, False, (1, 2, 4)]
    >>> [piece_of(KITE, (0, 1, 4), 0), pieces(KITE, (0, 1, 4)), hangs(KITE, (1, 3, 4)), hangs(KITE, ()), pieces(STAR, (1, 2, 3))]
    [(0, 1), ((0, 1), (4,)), True, False, ((1,), (2,), (3,))]
    >>> [with_tie(PATH, 3, 0), with_tie(PATH, 1, 0) == PATH, loose_ties(PATH)]
    [(4, ((0, 1), (0, 3), (1, 2), (2, 3))), True, ((0, 2), (0, 3), (1, 3))]
"""

STAGE_2 = r"""
    >>> [is_deal(RING, ((0, 2), (3, 1))), is_deal(RING, ((0, 0), (2, 2))), is_deal(RING, ((0,), (3,)))]
    [True, False, False]
    >>> [is_parts(RING, ((0, 2), (3, 1)), (0, 0, 1, 0)), is_parts(RING, ((0, 2), (2, 2)), (0, 0, 1, 1)), is_parts(PATH, ((0, 1), (2, 2)), (0, 1, 0, 1))]
    [True, True, False]
    >>> [part_of((0, 0, 1, 0), 0), every_sizes(4, 2), every_sizes(2, 3), border(RING, (0, 0, 1, 1))]
    [(0, 1, 3), [(1, 3), (2, 2), (3, 1)], [], ((0, 3), (1, 2))]
"""


class Examples(unittest.TestCase):
    def run_text(self, text, module, many):
        names = {name: getattr(module, name) for name in dir(module) if not name.startswith("_")}
        test = DocTestParser().get_doctest(WEBS + text, names, module.__name__, None, 0)
        self.assertEqual(len(test.examples), 4 + many)
        told = []
        failed = DocTestRunner(verbose=False).run(test, out=told.append).failed
        self.assertEqual(failed, 0, "".join(told))

    def test_stage_1(self):
        self.run_text(STAGE_1, webs, 3)

    def test_stage_2(self):
        self.run_text(STAGE_2, deals, 3)

    def test_sample_webs_are_those_of_the_document(self):
        names = {}
        for example in DocTestParser().get_examples(WEBS):
            exec(example.source, names)
        for name in ("RING", "PATH", "STAR", "KITE"):
            self.assertEqual(names[name], getattr(samples, name))
