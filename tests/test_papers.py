"""Stage 14: texts of webs with dealings."""

import unittest
from random import Random

from rootparts.errors import InvalidText, RootpartsError
from rootparts.papers import is_text, read_web, write_web
from tests.samples import GREAT, KITE, RING, bare, every_web, full, mutants, odd_values, sampled_webs


def told_text(web, dealing):
    """The text, line by line."""
    text = "places %d\n" % web[0]
    for a, b in web[1]:
        text += "tie %d %d\n" % (a, b)
    if dealing is not None:
        text += "parts"
        for part in dealing:
            text += " %d" % part
        text += "\n"
    return text


def drawn_cases(many, seed):
    """Webs with dealings and without."""
    draw = Random(seed)
    webs = [web for n in range(1, 13) for web in sampled_webs(n, many, seed + n)] + GREAT
    dealings = [None if draw.random() < 0.3 else tuple(draw.randint(0, 11) for _ in range(web[0])) for web in webs]
    return list(zip(webs, dealings))


CASES = drawn_cases(8, 1)


def told_case(text):
    """What the text is of: found by reading the numbers and writing them again, or None."""
    web, dealing = None, None
    for line in text.split("\n")[:-1]:
        word, *numbers = line.split(" ")
        try:
            numbers = tuple(map(int, numbers))
        except ValueError:
            return None
        if word == "places" and len(numbers) == 1:
            web = (numbers[0], ())
        elif word == "tie" and web:
            web = (web[0], web[1] + (numbers,))
        elif word == "parts":
            dealing = numbers
    if web is None or not 1 <= web[0] <= 12 or sorted(set(web[1])) != list(web[1]):
        return None
    if not all(len(tie) == 2 and 0 <= tie[0] < tie[1] < web[0] for tie in web[1]):
        return None
    if dealing is not None and (len(dealing) != web[0] or not all(0 <= part < 12 for part in dealing)):
        return None
    return (web, dealing) if told_text(web, dealing) == text else None


class Check(unittest.TestCase):
    def check(self, value):
        """The value is read, or refused, as it is due."""
        told = told_case(value) if isinstance(value, str) else None
        self.assertIs(is_text(value), told is not None, repr(value)[:200])
        if told is not None:
            self.assertEqual(repr(read_web(value)), repr(told))
            self.assertEqual(write_web(*told), value)
            return True
        self.refused(value)
        return False

    def refused(self, value):
        self.assertIs(is_text(value), False, repr(value)[:200])
        with self.assertRaises(InvalidText) as caught:
            read_web(value)
        self.assertIs(type(caught.exception), InvalidText)
        self.assertEqual(repr(caught.exception.value), repr(value))


class ThereAndBack(Check):
    def test_drawn_webs(self):
        for web, dealing in CASES:
            text = write_web(web, dealing)
            self.assertEqual(text, told_text(web, dealing))
            self.assertIs(is_text(text), True)
            self.assertEqual(repr(read_web(text)), repr((web, dealing)))

    def test_small_webs(self):
        for n in range(1, 5):
            for web in every_web(n):
                for dealing in [None, (0,) * n, (11,) * n, tuple(range(n)), tuple(range(11, 11 - n, -1))]:
                    self.assertEqual(write_web(web, dealing), told_text(web, dealing))
                    self.assertEqual(repr(read_web(told_text(web, dealing))), repr((web, dealing)))

    def test_the_least_and_the_greatest_text(self):
        self.assertEqual(write_web((1, ()), None), "places 1\n")
        self.assertEqual(write_web((1, ()), (0,)), "places 1\nparts 0\n")
        text = write_web(full(12), tuple(range(11, -1, -1)))
        self.assertEqual([text.count("\n"), text.split("\n")[-2]], [68, "parts 11 10 9 8 7 6 5 4 3 2 1 0"])
        self.assertEqual(read_web(text), (full(12), tuple(range(11, -1, -1))))

    def test_a_dealing_may_leave_parts_out(self):
        self.assertEqual(read_web("places 2\nparts 7 7\n"), ((2, ()), (7, 7)))

    def test_the_error_is_one_of_the_package(self):
        self.assertRaises(RootpartsError, read_web, "")
        self.assertRaises(ValueError, read_web, None)


class Spoilt(Check):
    TEXTS = [write_web(*case) for case in [(RING, None), (KITE, (0, 0, 1, 10, 11)), (bare(1), (3,)), (full(3), (0, 1, 0)), (bare(12), None)]]

    def test_one_sign_changed_put_in_or_left_out(self):
        right = 0
        for text in self.TEXTS:
            for at in range(len(text) + 1):
                right += self.check(text[:at] + text[at + 1:])
                for sign in "0123 -+_.\n\ttipaPx":
                    right += self.check(text[:at] + sign + text[at + 1:])
                    right += self.check(text[:at] + sign + text[at:])
        self.assertGreater(right, 50)

    def test_lines_exchanged_doubled_or_left_out(self):
        for text in self.TEXTS + [write_web(*case) for case in CASES[::7]]:
            lines = text.splitlines(True)
            for at in range(len(lines)):
                self.check("".join(lines[:at] + lines[at + 1:]))
                self.refused("".join(lines[:at] + lines[at:at + 1] + lines[at:]))
                self.check("".join(lines[:at] + lines[at + 1:] + lines[at:at + 1]) if at + 1 < len(lines) else text)
                for to in range(at):
                    changed = list(lines)
                    changed[at], changed[to] = lines[to], lines[at]
                    self.refused("".join(changed))

    def test_spaces_and_line_feeds(self):
        for text in self.TEXTS:
            for changed in [
                text[:-1], text + "\n", "\n" + text, " " + text, text + " ", text[:-1] + " \n", text.replace(" ", "  "),
                text.replace(" ", "\t"), text.replace("\n", "\n\n"), text.replace("\n", "\r\n"), text.replace("\n", " \n"),
                text.replace("\n", "\n "), text.replace(" ", ""), text.replace("\n", ""), text.replace("\n", " "), text * 2,
            ]:
                self.refused(changed)

    def test_numbers(self):
        for text in [
            "places 0\n", "places 13\n", "places 02\n", "places 00\n", "places +2\n", "places -2\n", "places 2.0\n",
            "places 1_0\n", "places two\n", "places " + "9" * 5000 + "\n", "places 2 2\n", "places\n", "places \n",
            "places 2\ntie 0 2\n", "places 2\ntie 1 0\n", "places 2\ntie 0 0\n", "places 2\ntie 00 1\n", "places 2\ntie 0 01\n",
            "places 2\ntie 0\n", "places 2\ntie\n", "places 2\ntie 0 1 1\n", "places 2\ntie -1 1\n", "places 2\ntie 0 1\ntie 0 1\n",
            "places 3\ntie 0 2\ntie 0 1\n", "places 3\ntie 1 2\ntie 0 1\n",
            "places 2\nparts 0\n", "places 2\nparts 0 0 0\n", "places 2\nparts\n", "places 2\nparts 0 12\n", "places 2\nparts 0 -1\n",
            "places 2\nparts 00 1\n", "places 2\nparts 0 011\n", "places 2\nparts 0 1\nparts 0 1\n", "places 2\nparts 0 1\ntie 0 1\n",
        ]:
            self.refused(text)

    def test_words(self):
        for text in [
            "", "\n", "\n\n", "places", "place 2\n", "Places 2\n", "places2\n", "tie 0 1\n", "parts 0\n", "parts 0 1\n", "2\n", " 2\n",
            "tie 0 1\nplaces 2\n", "parts 0 1\nplaces 2\n", "places 2\nplaces 2\n", "places 2\nties 0 1\n", "places 2\npart 0 1\n",
            "places 2\nTIE 0 1\n", "places 2\nNone\n", "places 2\nparts None\n", "places 2\n# no ties\n",
        ]:
            self.refused(text)

    def test_digits_of_other_scripts(self):
        for text in ["places \u0662\n", "places \u00b2\n", "places 2\ntie 0 \uff11\n", "places 2\u2028", "places\u00a02\n"]:
            self.refused(text)

    def test_odd_values(self):
        for value in odd_values() + mutants(self.TEXTS[0]) + [(RING, None), [self.TEXTS[0]], {"places 2\n": 0}, b"places 2\n"]:
            self.check(value)


del Check
