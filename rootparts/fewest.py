"""The fewest further ties that make a web firm for two roots, and bounds that show that fewer do not."""

from rootparts.firmness import is_firm
from rootparts.webs import (
    is_ascending, is_lot, is_place, is_tie, loose_ties, other_places, pieces, touches, with_tie,
)


def ties_needed(web):
    """Return the number of the fewest mending ties."""
    bound = find_bound(web)
    if bound is None:
        return 0
    return bound_tells(web, bound)


def find_mending(web):
    """Return mending ties that are as few as any."""
    mended = web
    # Each of the fewest ties leaves one less to be needed, so the tie that leaves the least is never one too many.
    while find_bound(mended) is not None:
        choices = [(ties_needed(with_tie(mended, a, b)), a, b) for a, b in loose_ties(mended)]
        _, a, b = min(choices)
        mended = with_tie(mended, a, b)
    return tuple([tie for tie in mended[1] if tie not in web[1]])


def is_mending(web, value):
    """Return whether the value is mending ties of the web."""
    n, ties = web
    if not isinstance(value, tuple) or not all([is_tie(n, tie) and tie not in ties for tie in value]):
        return False
    return is_ascending(value) and is_firm((n, tuple(sorted(ties + value))), 2)


def find_bound(web):
    """Return a bound that tells as many as the fewest mending ties, or None if the web is firm for 2."""
    everything = other_places(web, ())
    ends = [end for piece in pieces(web, everything) for end in _ends(web, piece)]
    # A single end is the lot of all places: it hangs, whichever place is taken out.
    if len(ends) < 2:
        return None
    bounds = [("pieces", place) for place in _parting_places(web, everything)]
    return max([("lots", tuple(sorted(ends)))] + bounds, key=lambda bound: bound_tells(web, bound))


def _ends(web, piece):
    """Return the least parts of the piece that hang on one place of it, or the piece alone if there are none."""
    parting = _parting_places(web, piece)
    if len(parting) == 0:
        return [piece]
    parts = [part for place in parting for part in pieces(web, _without(piece, place))]
    # A part with a parting place in it has a lesser one behind that place.
    return [part for part in parts if not any([place in part for place in parting])]


def _parting_places(web, lot):
    """Return the places of the lot without which it has at least two pieces."""
    return [place for place in lot if len(pieces(web, _without(lot, place))) >= 2]


def _without(lot, place):
    """Return the lot without the place."""
    return tuple([other for other in lot if other != place])


def bound_tells(web, value):
    """Return what the value tells if it is a bound of the web, else None."""
    if not isinstance(value, tuple) or len(value) != 2:
        return None
    word, told = value
    if word == "lots" and _are_lots(web, told):
        # 2 less the number of neighbours of each lot, and half of the sum, rounded up.
        return (sum([2 - len(_outer_neighbours(web, lot)) for lot in told]) + 1) // 2
    if word == "pieces" and is_place(web[0], told) and told in _parting_places(web, other_places(web, ())):
        return len(pieces(web, other_places(web, (told,)))) - 1
    return None


def _are_lots(web, value):
    """Return whether the value is lots as a bound has them."""
    if not isinstance(value, tuple) or len(value) == 0:
        return False
    if not all([is_lot(web[0], lot) and len(lot) > 0 for lot in value]) or not is_ascending(value):
        return False
    places = [place for lot in value for place in lot]
    return len(set(places)) == len(places) and all([_is_nearly_loose(web, lot) for lot in value])


def _is_nearly_loose(web, lot):
    """Return whether the lot has at most one neighbour outside of it, and leaves out more places than that."""
    many = len(_outer_neighbours(web, lot))
    return many <= 1 and web[0] - len(lot) > many


def _outer_neighbours(web, lot):
    """Return the places outside of the lot that are neighbours of one of its places."""
    return [place for place in other_places(web, lot) if touches(web, place, lot)]
