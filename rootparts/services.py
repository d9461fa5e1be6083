"""Parts for told roots with all sizes, or sizes for which a tree of cases shows that there are none."""

from rootparts.deals import every_sizes, is_deal, is_parts
from rootparts.orders import parts_by_order
from rootparts.trees import find_parts, find_tree, is_tree
from rootparts.webs import has_keys


def served_sizes(web, roots):
    """Return, in ascending order, the sizes for which there are parts."""
    return [sizes for sizes in every_sizes(web[0], len(roots)) if find_parts(web, (roots, sizes)) is not None]


def find_service(web, roots):
    """Return a service of the roots, or None if there is none."""
    service = {sizes: find_parts(web, (roots, sizes)) for sizes in every_sizes(web[0], len(roots))}
    if None in list(service.values()):
        return None
    return service


def find_want(web, roots):
    """Return a want of the roots, or None if there is none."""
    for sizes in every_sizes(web[0], len(roots)):
        tree = find_tree(web, (roots, sizes))
        if tree is not None:
            return (sizes, tree)
    return None


def is_service(web, roots, value):
    """Return whether the value is a service of the roots."""
    if not has_keys(value, every_sizes(web[0], len(roots))):
        return False
    return all([is_parts(web, (roots, sizes), dealing) for sizes, dealing in value.items()])


def is_want(web, roots, value):
    """Return whether the value is a want of the roots."""
    if not isinstance(value, tuple) or len(value) != 2:
        return False
    sizes, tree = value
    return is_deal(web, (roots, sizes)) and is_tree(web, (roots, sizes), tree)


def service_by_order(order):
    """Return the service of both ends of the order whose dealings are the parts along it."""
    return {(size, len(order) - size): parts_by_order(order, size) for size in range(1, len(order))}
