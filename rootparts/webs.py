"""Webs of places and ties, lots of places, and the pieces of a lot."""

MOST_PLACES = 12


def is_whole(value):
    """Return whether the value is an integer; a bool is none."""
    return isinstance(value, int) and not isinstance(value, bool)


def is_place(n, value):
    """Return whether the value is a place of a web of n places."""
    return is_whole(value) and 0 <= value < n


def is_ascending(items):
    """Return whether each item is less than the next one."""
    return all([item < after for item, after in zip(items, items[1:])])


def is_tie(n, value):
    """Return whether the value may be a tie in a web of n places."""
    if not isinstance(value, tuple) or len(value) != 2:
        return False
    a, b = value
    return is_place(n, a) and is_place(n, b) and a < b


def are_whole(value):
    """Return whether the value is a tuple of integers."""
    return isinstance(value, tuple) and all([is_whole(item) for item in value])


def has_keys(value, keys):
    """Return whether the value is a dict with just these keys, which are tuples of integers."""
    if not isinstance(value, dict) or len(value) != len(keys):
        return False
    # As many different keys, all of them among these, are just these; a bool in a key is no integer.
    return all([are_whole(key) and key in keys for key in value])


def is_web(value):
    """Return whether the value is a web."""
    if not isinstance(value, tuple) or len(value) != 2:
        return False
    n, ties = value
    if not is_whole(n) or n < 1 or n > MOST_PLACES or not isinstance(ties, tuple):
        return False
    # Only ties are compared: other values may have no order.
    return all([is_tie(n, tie) for tie in ties]) and is_ascending(ties)


def is_lot(n, value):
    """Return whether the value is a lot of places of a web of n places."""
    if not isinstance(value, tuple):
        return False
    return all([is_place(n, place) for place in value]) and is_ascending(value)


def neighbours(web, place):
    """Return the neighbours of the place in ascending order."""
    ties = web[1]
    lesser = [a for a, b in ties if b == place]
    greater = [b for a, b in ties if a == place]
    return tuple(sorted(lesser + greater))


def touches(web, place, lot):
    """Return whether the place has a neighbour in the lot."""
    return any([other in lot for other in neighbours(web, place)])


def other_places(web, places):
    """Return the lot of all places of the web but these."""
    return tuple([place for place in range(web[0]) if place not in places])


def every_neighbours(web):
    """Return the list of the neighbours of each place."""
    return [neighbours(web, place) for place in range(web[0])]


def reached_places(near, lot, place):
    """Return the places that are reached from the place within the lot, in no told order.

    near is the list of the neighbours of each place: a search asks for it once.
    """
    reached = [place]
    at = 0
    while at < len(reached):
        last = reached[at]
        for other in near[last]:
            if other in lot and other not in reached:
                reached.append(other)
        at += 1
    return reached


def piece_of(web, lot, place):
    """Return the piece of the lot in which the place is."""
    return tuple(sorted(reached_places(every_neighbours(web), lot, place)))


def pieces(web, lot):
    """Return the pieces of the lot in ascending order."""
    near = every_neighbours(web)
    # The lot ascends, so each piece is met by its least place, in order.
    found = []
    met = []
    for place in lot:
        if place not in met:
            piece = sorted(reached_places(near, lot, place))
            found.append(tuple(piece))
            met.extend(piece)
    return tuple(found)


def hangs(web, lot):
    """Return whether the lot has just one piece."""
    return len(pieces(web, lot)) == 1


def with_tie(web, a, b):
    """Return the web with a tie of the two different places a and b."""
    n, ties = web
    tie = (min(a, b), max(a, b))
    if tie in ties:
        return web
    return (n, tuple(sorted(ties + (tie,))))


def without_tie(web, a, b):
    """Return the web without the tie of the two places a and b."""
    n, ties = web
    return (n, tuple([tie for tie in ties if a not in tie or b not in tie]))


def loose_ties(web):
    """Return, in ascending order, all tuples of two places that are not tied."""
    n, ties = web
    return tuple([(a, b) for a in range(n) for b in range(a + 1, n) if (a, b) not in ties])


def trail(came, last):
    """Return the list that leads to the last one; came is a dict from each one to the one before it, or to None."""
    row = [last]
    while came[row[-1]] is not None:
        row.append(came[row[-1]])
    return row[::-1]
