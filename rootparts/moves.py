"""Standings between bounds, and rows of moves of one place at a time from one to another one, or shut sets."""

from rootparts.deals import is_dealing, part_of, put
from rootparts.webs import hangs, is_ascending, trail


def is_standing(web, roots, bounds, value):
    """Return whether the value is a standing of the web for the roots and bounds."""
    k = len(roots)
    if not is_dealing(web[0], k, value):
        return False
    return all([value[roots[i]] == i and _is_within(web, part_of(value, i), bounds[i]) for i in range(k)])


def _is_within(web, lot, bound):
    """Return whether the lot hangs and has as many places as the bound tells."""
    low, high = bound
    return low <= len(lot) <= high and hangs(web, lot)


def standings(web, roots, bounds):
    """Return all standings in ascending order."""
    return [dealing for dealing in _rooted(web[0], roots) if is_standing(web, roots, bounds, dealing)]


def _rooted(n, roots):
    """Return, in ascending order, all dealings of n places in which each root is in its part."""
    dealings = [()]
    for place in range(n):
        parts = [roots.index(place)] if place in roots else list(range(len(roots)))
        dealings = [dealing + (i,) for dealing in dealings for i in parts]
    return dealings


def moves_of(web, roots, bounds, standing):
    """Return all moves of the standing in ascending order."""
    moved = [
        put(standing, place, i)
        for place, part in enumerate(standing) for i in range(len(roots)) if i != part
    ]
    return sorted([dealing for dealing in moved if is_standing(web, roots, bounds, dealing)])


def _came_from(web, roots, bounds, standing):
    """Return a dict from each standing to which moves lead from the told one to the standing before it."""
    came = {standing: None}
    row = [standing]
    at = 0
    # The nearer standings come first, so each row that is traced back is as short as any.
    while at < len(row):
        last = row[at]
        for move in moves_of(web, roots, bounds, last):
            if move not in came:
                came[move] = last
                row.append(move)
        at += 1
    return came


def find_row(web, roots, bounds, standing, other):
    """Return a row from the standing to the other one with as few standings as any, or None if there is none."""
    came = _came_from(web, roots, bounds, standing)
    if other not in came:
        return None
    return tuple(trail(came, other))


def find_shut(web, roots, bounds, standing, other):
    """Return a shut set for the standing and the other one, or None if there is none."""
    came = _came_from(web, roots, bounds, standing)
    if other in came:
        return None
    return tuple(sorted(came))


def is_row(web, roots, bounds, standing, other, value):
    """Return whether the value is a row from the standing to the other one."""
    if not _are_standings(web, roots, bounds, value) or len(value) == 0:
        return False
    if value[0] != standing or value[-1] != other:
        return False
    return all([_is_move(before, after) for before, after in zip(value, value[1:])])


def _are_standings(web, roots, bounds, value):
    """Return whether the value is a tuple of standings."""
    return isinstance(value, tuple) and all([is_standing(web, roots, bounds, item) for item in value])


def _is_move(before, after):
    """Return whether the two standings differ at just one place."""
    return len([place for place, part in enumerate(before) if after[place] != part]) == 1


def is_shut(web, roots, bounds, standing, other, value):
    """Return whether the value is a shut set for the standing and the other one."""
    if not _are_standings(web, roots, bounds, value) or not is_ascending(value):
        return False
    if standing not in value or other in value:
        return False
    return all([move in value for item in value for move in moves_of(web, roots, bounds, item)])
