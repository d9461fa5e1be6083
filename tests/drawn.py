"""Drawn histories of maps, led beside a plain record of what is due."""

from random import Random

from rootparts.errors import AlreadyRoot, AlreadyTied, InvalidPlace, NotRoot, NotTied, SamePlace
from rootparts.maps import Map


class Record:
    """What a map is to hold: a set of ties, a list of roots, and copies of both behind each call."""

    def __init__(self, n):
        self.n = n
        self.ties = set()
        self.roots = []
        self.calls = []
        self.before = []
        self.behind = []

    def web(self):
        return (self.n, tuple(sorted(self.ties)))

    def is_place(self, value):
        return type(value) is int and value in range(self.n)

    def due(self, call):
        """The class of the error that is due, and what it holds by the names of its attributes, or None."""
        places = call[1:]
        for value in places:
            if not self.is_place(value):
                return (InvalidPlace, {"value": value})
        if len(places) == 2:
            a, b = places
            tied = (min(places), max(places)) in self.ties
            if a == b:
                return (SamePlace, {"place": a})
            if tied != (call[0] == "untie"):
                return (AlreadyTied if tied else NotTied, {"a": a, "b": b})
            return None
        is_root = places[0] in self.roots
        if is_root != (call[0] == "unroot"):
            return (AlreadyRoot if is_root else NotRoot, {"place": places[0]})
        return None

    def make(self, call):
        """Make a call for which no error is due."""
        self.before.append((set(self.ties), list(self.roots)))
        self.calls.append(call)
        word, places = call[0], call[1:]
        if word == "tie":
            self.ties.add((min(places), max(places)))
        elif word == "untie":
            self.ties.remove((min(places), max(places)))
        elif word == "root":
            self.roots.append(places[0])
        else:
            self.roots.remove(places[0])
        self.behind.append((call, self.web(), tuple(self.roots)))

    def undo(self):
        if not self.calls:
            return None
        self.ties, self.roots = self.before.pop()
        self.behind.pop()
        return self.calls.pop()

    def log(self):
        return [(call, len(web[1]), roots) for call, web, roots in self.behind]


ODD_PLACES = [None, True, False, "0", "", -1, 100, 10 ** 99, (), (0,), [0], {0: 0}, [[]]]


def drawn_call(draw, n):
    """A call with places that mostly are places."""
    places = [draw.randrange(n) if draw.random() < 0.93 else draw.choice(ODD_PLACES) for _ in range(2)]
    word = draw.choice(["tie", "tie", "tie", "untie", "root", "unroot"])
    return (word,) + tuple(places[:2 if word in ("tie", "untie") else 1])


def make(chart, call):
    return getattr(chart, call[0])(*call[1:])


def drawn_map(n, many, seed):
    """A map after so many drawn calls, some taken back, and its record."""
    draw = Random(seed)
    chart, record = Map(n), Record(n)
    for _ in range(many):
        if draw.random() < 0.2:
            chart.undo()
            record.undo()
        call = drawn_call(draw, n)
        if record.due(call) is None:
            make(chart, call)
            record.make(call)
    return chart, record
