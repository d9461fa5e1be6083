"""Stage 13: logs of maps."""

import unittest
from random import Random

from rootparts.maplogs import first_map_fault, is_map_log, map_log, resumed_map, webs_of_log
from rootparts.maps import Map
from tests.drawn import Record, drawn_map, make
from tests.samples import dict_mutants, mutants, odd_values, replacements


def told_call(value):
    return (
        isinstance(value, tuple) and len(value) > 0 and isinstance(value[0], str)
        and len(value) == {"tie": 3, "untie": 3, "root": 2, "unroot": 2}.get(value[0])
    )


def told_fault(n, value):
    """The index of the first entry that is not right, or None, by a plain record."""
    record = Record(n)
    for at, entry in enumerate(value):
        if not isinstance(entry, tuple) or len(entry) != 3 or not told_call(entry[0]) or record.due(entry[0]) is not None:
            return at
        record.make(entry[0])
        if repr(entry) != repr(record.log()[-1]):
            return at
    return None


def drawn_logs():
    """Logs of drawn maps, each with its number of places, its map and its record."""
    out = []
    for n in range(1, 9):
        for many in (0, 1, 5, 60, 400):
            chart, record = drawn_map(n, many, 100 * n + many)
            out.append((n, map_log(chart), chart, record))
    return out


LOGS = drawn_logs()


class Logs(unittest.TestCase):
    def test_logs_of_drawn_maps(self):
        entries = 0
        for n, log, chart, record in LOGS:
            self.assertEqual(repr(log), repr(record.log()))
            self.assertIs(first_map_fault(n, log), None)
            self.assertIs(is_map_log(n, log), True)
            entries += len(log)
        self.assertGreater(entries, 500)

    def test_calls_that_were_taken_back_are_left_out(self):
        chart = Map(4)
        for call in [("tie", 3, 1), ("root", 2), ("unroot", 2), ("untie", 1, 3)]:
            make(chart, call)
        told = [(("tie", 3, 1), 1, ()), (("root", 2), 1, (2,)), (("unroot", 2), 1, ()), (("untie", 1, 3), 0, ())]
        self.assertEqual(map_log(chart), told)
        for many in (3, 2, 1):
            chart.undo()
            self.assertEqual(map_log(chart), told[:many])
        chart.root(0)
        self.assertEqual(map_log(chart), told[:1] + [(("root", 0), 1, (0,))])
        chart.undo()
        chart.undo()
        self.assertEqual([map_log(chart), map_log(Map(1))], [[], []])

    def test_a_log_is_new_and_nothing_that_the_map_holds(self):
        chart, _ = drawn_map(5, 30, 3)
        log = map_log(chart)
        kept = list(log)
        log.clear()
        self.assertEqual(map_log(chart), kept)
        self.assertEqual(resumed_map(5, kept), chart)
        chart.undo()
        self.assertEqual(map_log(chart), kept[:-1])

    def test_resumed_maps_are_equal_and_undo_takes_all_their_calls_back(self):
        for n, log, chart, record in LOGS:
            resumed = resumed_map(n, log)
            self.assertIsInstance(resumed, Map)
            self.assertIsNot(resumed, chart)
            self.assertEqual([resumed.web(), resumed.roots()], [record.web(), tuple(record.roots)])
            self.assertIs(resumed == chart, True)
            self.assertEqual(repr(map_log(resumed)), repr(log))
            for call, _, _ in log[::-1]:
                self.assertEqual(repr(resumed.undo()), repr(call))
            self.assertIs(resumed.undo(), None)
            self.assertIs(resumed == Map(n), True)
            self.assertEqual(repr(map_log(chart)), repr(log))

    def test_webs_of_logs(self):
        for n, log, _, record in LOGS:
            self.assertEqual(repr(webs_of_log(n, log)), repr([web for _, web, _ in record.behind]))
        self.assertEqual(webs_of_log(3, []), [])

    def test_a_part_of_a_log_from_its_start_is_a_log(self):
        for n, log, _, _ in LOGS[::3]:
            for many in range(0, len(log) + 1, 5):
                self.assertIs(is_map_log(n, log[:many]), True)
                self.assertEqual(map_log(resumed_map(n, log[:many])), log[:many])


class Faults(unittest.TestCase):
    def check(self, n, value):
        told = told_fault(n, value)
        self.assertEqual(repr(first_map_fault(n, value)), repr(told), (n, repr(value)[:300]))
        self.assertIs(is_map_log(n, value), told is None)
        return told

    def test_entries_left_out_doubled_exchanged_or_turned(self):
        told = []
        for n, log, _, _ in LOGS:
            draw = Random(n)
            told.append(self.check(n, log[::-1]))
            for at in range(0, len(log), 1 + len(log) // 12):
                entry, other = log[at], draw.choice(log)
                told.append(self.check(n, log[:at] + log[at + 1:]))
                told.append(self.check(n, log[:at] + [entry] + log[at:]))
                told.append(self.check(n, log[:at] + [other] + log[at + 1:]))
                told.append(self.check(n, log[:at] + [(other[0],) + entry[1:]] + log[at + 1:]))
                told.append(self.check(n, log[:at] + [entry[:2] + (entry[2][::-1],)] + log[at + 1:]))
                turned = (entry[0][0],) + entry[0][:0:-1]
                # A tie turned about is the same tie, and the log stays right.
                self.assertIs(self.check(n, log[:at] + [(turned,) + entry[1:]] + log[at + 1:]), None)
        self.assertGreater(len(set(told)), 10)

    def test_other_numbers_of_ties_and_other_roots(self):
        for n, log, _, _ in LOGS:
            for at in range(0, len(log), 1 + len(log) // 12):
                call, ties, roots = log[at]
                for entry in [
                    (call, ties + 1, roots), (call, ties - 1, roots), (call, -ties - 1, roots), (call, str(ties), roots),
                    (call, None, roots), (call, [ties], roots), (call, ties, roots + (0,)), (call, ties, list(roots)),
                    (call, ties, None), (call, ties, roots + (None,)), (call, roots, ties), (call, ties, roots + (n,)),
                ]:
                    self.assertEqual(self.check(n, log[:at] + [entry] + log[at + 1:]), at, entry)

    def test_truths_in_the_place_of_integers(self):
        chart = Map(3)
        for call in [("root", 1), ("tie", 1, 0), ("root", 0), ("unroot", 1), ("untie", 0, 1)]:
            make(chart, call)
        log = map_log(chart)
        self.assertIs(self.check(3, log), None)
        changed = 0
        for at, (call, ties, roots) in enumerate(log):
            others = [(call, bool(ties), roots)] if ties in (0, 1) else []
            others += [((call[0],) + tuple(map(bool, call[1:])), ties, roots)]
            others += [(call, ties, tuple(map(bool, roots)))] if roots else []
            for entry in others:
                self.assertEqual(entry, log[at])
                self.assertEqual(self.check(3, log[:at] + [entry] + log[at + 1:]), at, entry)
                changed += 1
        self.assertEqual(changed, 15)

    def test_tuples_and_lists(self):
        for n, log, _, _ in LOGS[1::2]:
            for at in range(0, len(log), 1 + len(log) // 6):
                call, ties, roots = log[at]
                for entry in [list(log[at]), (list(call), ties, roots), (call, ties), log[at] + (0,), call, (log[at],)]:
                    self.assertEqual(self.check(n, log[:at] + [entry] + log[at + 1:]), at, entry)
            self.assertIs(is_map_log(n, tuple(log)), False)
            self.assertIs(is_map_log(n, dict(enumerate(log))), False)
            self.assertIs(is_map_log(n, [log]), False)

    def test_calls_that_are_none(self):
        log = [(("tie", 2, 0), 1, ()), (("root", 1), 1, (1,))]
        for call in [
            ("root",), ("root", 1, 2), ("tie", 1), ("root", 1, 1), (), ("Root", 1), ("undo",), (1, "root"), ["root", 1],
            ("parts", (1,)), ("root", None), ("root", 3), ("root", -1), ("root", (1,)), ("root", [1]), "root", None, 1,
            (None, 1), (["root"], 1), ({}, 1), ("web",), ("keep", 1), ("unroot", 1), ("tie", 0, 2), ("untie", 1, 2),
            ("tie", 1, 1), ("firmness",), ("__len__",), ("__eq__", 1), ("steps",), ("roots",),
        ]:
            self.assertEqual(self.check(3, log[:1] + [(call, 1, (1,))]), 1, call)
            self.assertEqual(self.check(3, [(call, 0, ())]), 0, call)
        for word in ("untie", "roots", "Unroot", "undo", "", None, 0, True, ("unroot",), ["unroot"], {}):
            self.assertEqual(self.check(3, log + [((word, 1), 1, ())]), 2, word)
            self.assertEqual(self.check(3, log + [((word, 2, 0), 0, (1,))]), None if word == "untie" else 2, word)
        self.assertIs(self.check(3, log + [(("unroot", 1), 1, ())]), None)

    def test_other_numbers_of_places(self):
        for n, log, _, _ in LOGS:
            for other in range(1, 9):
                self.check(other, log)

    def test_each_entry_changed_at_one_place(self):
        chart = Map(3)
        for call in [("tie", 2, 0), ("root", 1), ("untie", 0, 2)]:
            make(chart, call)
        log = map_log(chart)
        for at, entry in enumerate(log):
            for other in mutants(entry) + replacements():
                self.check(3, log[:at] + [other] + log[at + 1:])
                self.check(3, log[:at] + [other] + log[at:])

    def test_odd_values(self):
        for value in odd_values() + dict_mutants({0: 1}):
            for n in (1, 3, 8):
                if isinstance(value, list):
                    self.check(n, value)
                else:
                    self.assertIs(is_map_log(n, value), False)
        for value in odd_values():
            self.assertEqual(first_map_fault(4, [(("tie", 0, 1), 1, ()), value]), 1)

    def test_no_entries(self):
        for n in range(1, 9):
            self.assertIs(first_map_fault(n, []), None)
            self.assertIs(is_map_log(n, []), True)
            self.assertIs(resumed_map(n, []) == Map(n), True)
