"""Texts of webs with dealings, written and read."""

from rootparts.deals import is_dealing
from rootparts.errors import InvalidText
from rootparts.webs import MOST_PLACES, is_web

MOST_ROOTS = 12


def write_web(web, dealing):
    """Return the text of the web with the dealing, or with None."""
    n, ties = web
    rows = [("places", n)] + [("tie", a, b) for a, b in ties]
    if dealing is not None:
        rows.append(("parts",) + dealing)
    return "".join([_line(row) for row in rows])


def _line(row):
    """Return the line of the word and the integers behind it."""
    return " ".join([str(item) for item in row]) + "\n"


def read_web(value):
    """Return the tuple of the web and the dealing whose text the value is."""
    told = _told(value)
    if told is None:
        raise InvalidText(value)
    return told


def is_text(value):
    """Return whether the value is the text of a web with a dealing, or with None."""
    return _told(value) is not None


def _told(value):
    """Return the tuple of the web and the dealing whose text the value is, or None if it is no text."""
    if not isinstance(value, str) or not value.endswith("\n"):
        return None
    rows = [_row(line) for line in value[:-1].split("\n")]
    if rows[-1][0] != "parts":
        return _web_and_dealing(rows, None)
    return _web_and_dealing(rows[:-1], rows[-1][1:])


def _row(line):
    """Return the tuple of the word of the line and of the numbers behind it."""
    words = line.split(" ")
    return (words[0],) + tuple([_number(word) for word in words[1:]])


def _number(word):
    """Return the number that the word writes, or None if it writes none that stands in a text."""
    # Compared with what would be written: so no sign, no 0 in front and no endless number needs a rule of its own.
    for number in range(MOST_PLACES + 1):
        if word == str(number):
            return number
    return None


def _web_and_dealing(rows, dealing):
    """Return the tuple of the web of the rows and the dealing, or None if they are none."""
    if [row[0] for row in rows] != ["places"] + ["tie"] * (len(rows) - 1) or len(rows[0]) != 2:
        return None
    web = (rows[0][1], tuple([row[1:] for row in rows[1:]]))
    if not is_web(web):
        return None
    if dealing is not None and not is_dealing(web[0], MOST_ROOTS, dealing):
        return None
    return (web, dealing)
