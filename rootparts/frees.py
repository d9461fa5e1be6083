"""Parts of told sizes without told roots, or a table of trees that shows that there are none."""

from rootparts.deals import is_dealing, is_part, part_of
from rootparts.trees import find_parts, find_tree, is_tree
from rootparts.webs import has_keys


def _every_roots(n, k):
    """Return, in ascending order, all tuples of k different places of a web of n places."""
    rows = [()]
    for _ in range(k):
        rows = [row + (place,) for row in rows for place in range(n) if place not in row]
    return rows


def find_free(web, sizes):
    """Return free parts of the web for the sizes, or None if there are none."""
    # Each place of a part can be its root, so free parts are parts for some roots.
    for roots in _every_roots(web[0], len(sizes)):
        parts = find_parts(web, (roots, sizes))
        if parts is not None:
            return parts
    return None


def find_table(web, sizes):
    """Return a table of the web for the sizes, or None if there is none."""
    table = {}
    for roots in _every_roots(web[0], len(sizes)):
        tree = find_tree(web, (roots, sizes))
        if tree is None:
            return None
        table[roots] = tree
    return table


def is_free(web, sizes, value):
    """Return whether the value is free parts of the web for the sizes."""
    if not is_dealing(web[0], len(sizes), value):
        return False
    return all([is_part(web, part_of(value, i), size) for i, size in enumerate(sizes)])


def is_table(web, sizes, value):
    """Return whether the value is a table of the web for the sizes."""
    if not has_keys(value, _every_roots(web[0], len(sizes))):
        return False
    return all([is_tree(web, (roots, sizes), tree) for roots, tree in value.items()])


def served_roots(web, sizes):
    """Return, in ascending order, all tuples of roots for which there are parts with the sizes."""
    return [roots for roots in _every_roots(web[0], len(sizes)) if find_parts(web, (roots, sizes)) is not None]


def roots_of(dealing, k):
    """Return the tuple with the least place of each of the k parts."""
    return tuple([dealing.index(i) for i in range(k)])
