"""Cuts of a web, ways that are apart, and papers of ways between all places that are not tied."""

from rootparts.webs import has_keys, is_lot, is_place, loose_ties, neighbours, other_places, pieces, trail

# The two sides of a place in the search for ways: a way comes to it at one and leaves it from the other.
IN = 0
OUT = 1


def is_cut(web, value):
    """Return whether the value is a cut of the web."""
    return is_lot(web[0], value) and len(pieces(web, other_places(web, value))) >= 2


def is_way(web, a, b, value):
    """Return whether the value is a way from a to b."""
    if not isinstance(value, tuple) or not all([is_place(web[0], place) for place in value]):
        return False
    if len(value) < 2 or len(set(value)) != len(value) or value[0] != a or value[-1] != b:
        return False
    return all([after in neighbours(web, place) for place, after in zip(value, value[1:])])


def ways_apart(web, a, b):
    """Return as many ways from a to b that are apart as there are at most."""
    links = _most_links(web, a, b)
    return tuple([_way_along(links, a, place, b) for start, place in links if start == a])


def parting_lot(web, a, b):
    """Return a lot of as few places as possible without which no way leads from a to b."""
    came = _came_from(web, _most_links(web, a, b), a, b)
    # The search comes to these places, but each one is taken by a way that it can't push aside.
    return tuple([place for place in range(web[0]) if (place, IN) in came and (place, OUT) not in came])


def _most_links(web, a, b):
    """Return the links, tuples of a place and the next one, of as many ways apart from a to b as there are."""
    links = []
    came = _came_from(web, links, a, b)
    while (b, IN) in came:
        links = _with_way(links, trail(came, (b, IN)))
        came = _came_from(web, links, a, b)
    return links


def _came_from(web, links, a, b):
    """Return a dict from each side of a place that one more way from a may come to, to the side before it."""
    before = {place: start for start, place in links if place != b}
    came = {(a, OUT): None}
    row = [(a, OUT)]
    at = 0
    while at < len(row):
        last = row[at]
        for side in _next_sides(web, before, last):
            if side not in came:
                came[side] = last
                row.append(side)
        at += 1
    return came


def _next_sides(web, before, last):
    """Return the sides to which one more way may go on; before tells from which place the link to a place comes."""
    place, side = last
    if side == IN:
        # A place that another way goes over is passed only if the link to it is taken back.
        return [(before.get(place, place), OUT)]
    ahead = [(other, IN) for other in neighbours(web, place)]
    if place in before:
        ahead.append((place, IN))
    return ahead


def _with_way(links, sides):
    """Return the links with those that the row of sides goes along put in, and those that it takes back left out."""
    added = []
    taken = []
    for (place, side), (other, _) in zip(sides, sides[1:]):
        if place != other and side == OUT:
            added.append((place, other))
        if place != other and side == IN:
            taken.append((other, place))
    return [link for link in links if link not in taken] + added


def _way_along(links, a, place, b):
    """Return the way along the links that leads from a over the place to b."""
    after = {start: end for start, end in links if start != a}
    way = [a, place]
    while way[-1] != b:
        way.append(after[way[-1]])
    return tuple(way)


def find_paper(web, k):
    """Return a paper of the web for k, or None if there is none."""
    paper = {}
    for a, b in loose_ties(web):
        ways = ways_apart(web, a, b)
        if len(ways) < k:
            return None
        paper[(a, b)] = ways[:k]
    return paper


def find_cut(web, k):
    """Return a cut of fewer than k places, or None if there is none."""
    for a, b in loose_ties(web):
        lot = parting_lot(web, a, b)
        if len(lot) < k:
            return lot
    return None


def is_paper(web, k, value):
    """Return whether the value is a paper of the web for k."""
    if not has_keys(value, loose_ties(web)):
        return False
    return all([_are_ways_apart(web, a, b, k, ways) for (a, b), ways in value.items()])


def _are_ways_apart(web, a, b, k, value):
    """Return whether the value is a tuple of k ways from a to b that are apart."""
    if not isinstance(value, tuple) or len(value) != k or not all([is_way(web, a, b, way) for way in value]):
        return False
    inner = [place for way in value for place in way[1:-1]]
    return len(set(inner)) == len(inner)
