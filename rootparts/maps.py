"""Maps: webs that are led tie by tie, with their roots, and whose calls can be taken back."""

from rootparts.deals import is_deal
from rootparts.errors import AlreadyRoot, AlreadyTied, InvalidPlace, InvalidSizes, NotRoot, NotTied, SamePlace
from rootparts.firmness import firmness
from rootparts.trees import find_parts
from rootparts.webs import hangs, is_place, neighbours, other_places, with_tie, without_tie


class Map:
    """A map of n places, at first without ties and roots."""

    def __init__(self, n):
        # The web and the roots before the first call and behind each one, so that undo only drops the last.
        self._states = [((n, ()), ())]
        self._calls = []

    def __eq__(self, other):
        return isinstance(other, Map) and self.web() == other.web() and self.roots() == other.roots()

    def __len__(self):
        return len(self.web()[1])

    def tie(self, a, b):
        """Tie the two places."""
        self._check_two_places(a, b)
        if self._are_tied(a, b):
            raise AlreadyTied(a, b)
        self._keep(("tie", a, b), with_tie(self.web(), a, b), self.roots())

    def untie(self, a, b):
        """Take the tie of the two places away."""
        self._check_two_places(a, b)
        if not self._are_tied(a, b):
            raise NotTied(a, b)
        self._keep(("untie", a, b), without_tie(self.web(), a, b), self.roots())

    def root(self, place):
        """Make the place a root, behind all others."""
        self._check_place(place)
        if place in self.roots():
            raise AlreadyRoot(place)
        self._keep(("root", place), self.web(), self.roots() + (place,))

    def unroot(self, place):
        """Make the root no root."""
        self._check_place(place)
        if place not in self.roots():
            raise NotRoot(place)
        self._keep(("unroot", place), self.web(), tuple([root for root in self.roots() if root != place]))

    def undo(self):
        """Take the most recent call back that was not taken back yet, and return it, or None if there is none."""
        if len(self._calls) == 0:
            return None
        self._states.pop()
        return self._calls.pop()

    def web(self):
        """Return the web."""
        return self._states[-1][0]

    def roots(self):
        """Return the tuple of the roots."""
        return self._states[-1][1]

    def steps(self):
        """Return a list of tuples, one for each call that was not taken back: it, and the web and roots behind it."""
        return [(call, web, roots) for call, (web, roots) in zip(self._calls, self._states[1:])]

    def parts(self, sizes):
        """Return parts of the web for the deal of the roots with the sizes, or None if there are none."""
        deal = (self.roots(), sizes)
        if not is_deal(self.web(), deal):
            raise InvalidSizes(sizes)
        return find_parts(self.web(), deal)

    def firmness(self):
        """Return the firmness of the web."""
        return firmness(self.web())

    def is_split(self):
        """Return whether the places do not hang together."""
        return not hangs(self.web(), other_places(self.web(), ()))

    def _check_place(self, value):
        """Raise an error if the value is no place."""
        if not is_place(self.web()[0], value):
            raise InvalidPlace(value)

    def _check_two_places(self, a, b):
        """Raise an error if a and b are not two different places."""
        self._check_place(a)
        self._check_place(b)
        if a == b:
            raise SamePlace(a)

    def _are_tied(self, a, b):
        """Return whether the two places are tied."""
        return b in neighbours(self.web(), a)

    def _keep(self, call, web, roots):
        """Keep the call, and the web and the roots behind it."""
        self._calls.append(call)
        self._states.append((web, roots))
