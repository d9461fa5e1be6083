"""Deals of a web to roots in told sizes, and the parts that serve them."""

from rootparts.webs import hangs, is_place, is_whole


def is_deal(web, value):
    """Return whether the value is a deal of the web."""
    if not isinstance(value, tuple) or len(value) != 2:
        return False
    roots, sizes = value
    return _are_roots(web[0], roots) and _are_sizes(web[0], len(roots), sizes)


def _are_roots(n, value):
    """Return whether the value is a tuple of one or more different places."""
    if not isinstance(value, tuple) or len(value) == 0:
        return False
    return all([is_place(n, root) for root in value]) and len(set(value)) == len(value)


def _are_sizes(n, k, value):
    """Return whether the value is a tuple of k integers from 1 on that are together n."""
    if not isinstance(value, tuple) or len(value) != k:
        return False
    return all([is_whole(size) and size >= 1 for size in value]) and sum(value) == n


def is_dealing(n, k, value):
    """Return whether the value is a dealing of a web of n places to k roots."""
    if not isinstance(value, tuple) or len(value) != n:
        return False
    # The parts are numbered as places are: from 0 up, less than k.
    return all([is_place(k, part) for part in value])


def is_parts(web, deal, value):
    """Return whether the value is parts of the web for the deal."""
    roots, sizes = deal
    k = len(roots)
    if not is_dealing(web[0], k, value):
        return False
    return all([value[roots[i]] == i and is_part(web, part_of(value, i), sizes[i]) for i in range(k)])


def is_part(web, lot, size):
    """Return whether the lot has the size and hangs."""
    return len(lot) == size and hangs(web, lot)


def part_of(dealing, i):
    """Return the lot of the places of part i of the dealing."""
    return tuple([place for place, part in enumerate(dealing) if part == i])


def put(dealing, place, i):
    """Return the dealing, or state, in which the place is put to part i and all else is as it was."""
    return dealing[:place] + (i,) + dealing[place + 1:]


def every_sizes(n, k):
    """Return, in ascending order, all tuples of k integers from 1 on that are together n."""
    if k < 1:
        return [()] if n == 0 else []
    # The first size leaves at least 1 for each of the others.
    return [(size,) + rest for size in range(1, n - k + 2) for rest in every_sizes(n - size, k - 1)]


def border(web, dealing):
    """Return, in ascending order, the ties whose two places are in unlike parts."""
    return tuple([(a, b) for a, b in web[1] if dealing[a] != dealing[b]])
