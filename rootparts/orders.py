"""Orders of a web from a place to another one, from which parts of every size are read off, or loose ends."""

from rootparts.webs import is_lot, is_place, neighbours, other_places, pieces, touches


def find_order(web, a, b):
    """Return an order from a to b, or None if there is none."""
    order = (a, b)
    while len(order) < web[0]:
        piece = pieces(web, other_places(web, order))[0]
        touched = [place for place in order if touches(web, place, piece)]
        # Tied to at most one place of the order, the piece is the lot of a loose end.
        if len(touched) < 2:
            return None
        # Behind the first of two places that the row ties, each of its places has neighbours on both sides.
        at = order.index(touched[0]) + 1
        order = order[:at] + _row_between(web, piece, touched[0], touched[1]) + order[at:]
    return order


def _row_between(web, piece, first, last):
    """Return a row of places of the piece, each tied to the next, from a neighbour of first to one of last."""
    goals = neighbours(web, last)
    rows = [(place,) for place in neighbours(web, first) if place in piece]
    met = [row[0] for row in rows]
    at = 0
    while rows[at][-1] not in goals:
        row = rows[at]
        for place in neighbours(web, row[-1]):
            if place in piece and place not in met:
                met.append(place)
                rows.append(row + (place,))
        at += 1
    return rows[at]


def find_loose(web, a, b):
    """Return a loose end for a and b, or None if there is none."""
    for place in range(web[0]):
        for piece in pieces(web, other_places(web, (place,))):
            if a not in piece and b not in piece:
                return (place, piece)
    return None


def is_order(web, a, b, value):
    """Return whether the value is an order from a to b."""
    n = web[0]
    if not isinstance(value, tuple) or len(value) != n or not all([is_place(n, place) for place in value]):
        return False
    if len(set(value)) != n or value[0] != a or value[-1] != b:
        return False
    return all([_is_between(web, value, at) for at in range(1, n - 1)])


def _is_between(web, order, at):
    """Return whether the place at the index has a neighbour earlier in the order and one later in it."""
    return touches(web, order[at], order[:at]) and touches(web, order[at], order[at + 1:])


def is_loose(web, a, b, value):
    """Return whether the value is a loose end for a and b."""
    if not isinstance(value, tuple) or len(value) != 2:
        return False
    place, lot = value
    if not is_place(web[0], place) or not is_lot(web[0], lot) or len(lot) == 0:
        return False
    if a in lot or b in lot or place in lot:
        return False
    return all([other in lot or other == place for inner in lot for other in neighbours(web, inner)])


def parts_by_order(order, size):
    """Return the dealing with the first places of the order, as many as the size, in part 0, the others in part 1."""
    first = order[:size]
    return tuple([0 if place in first else 1 for place in range(len(order))])
