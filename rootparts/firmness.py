"""Webs that are firm for a number of roots, and bars: roots and sizes that no web with a cut can serve."""

from rootparts.cuts import find_cut, parting_lot
from rootparts.deals import is_deal
from rootparts.webs import hangs, loose_ties, other_places, pieces


def is_firm(web, k):
    """Return whether the web is firm for k."""
    return web[0] > k and find_cut(web, k) is None


def firmness(web):
    """Return the greatest number less than that of the places for which the web is firm, or 0."""
    # Each cut parts two places that are not tied; without such places there is no cut.
    least = [len(parting_lot(web, a, b)) for a, b in loose_ties(web)]
    return min([web[0] - 1] + least)


def bar_of(web, k, cut):
    """Return a bar for k of which all places of the cut are among the first k - 1 roots."""
    rest = other_places(web, cut)
    parted = pieces(web, rest)
    # One place of each of two pieces stays, so the places that stay don't hang.
    kept = (parted[0][0], parted[1][0])
    spare = [place for place in rest if place not in kept]
    first = cut + tuple(spare[:k - 1 - len(cut)])
    return (first + (kept[0],), (1,) * (k - 1) + (web[0] - k + 1,))


def find_bar(web, k):
    """Return a bar for k, or None if there is none."""
    # A bar leaves at least two places besides its first k - 1 roots.
    if web[0] <= k:
        return None
    cut = find_cut(web, k)
    if cut is None:
        return None
    return bar_of(web, k, cut)


def is_bar(web, k, value):
    """Return whether the value is a bar of the web for k."""
    if not is_deal(web, value):
        return False
    roots, sizes = value
    if len(roots) != k or not all([size == 1 for size in sizes[:-1]]):
        return False
    return not hangs(web, other_places(web, roots[:-1]))
