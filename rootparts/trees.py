"""Parts of a web for a deal, or a tree of cases that shows that there are none."""

from rootparts.deals import put
from rootparts.webs import every_neighbours, is_place, piece_of, reached_places

# Stands in a state for a place that is put to no part yet.
OPEN = -1


def first_state(web, deal):
    """Return the state in which each root is in its part and all other places are open."""
    roots = deal[0]
    return tuple([roots.index(place) if place in roots else OPEN for place in range(web[0])])


def room_of(web, deal, state, i):
    """Return the room of part i in the state."""
    return piece_of(web, _lot_for(state, i), deal[0][i])


def _lot_for(state, i):
    """Return the lot of the places that are put to part i or open."""
    return tuple([place for place, part in enumerate(state) if part in (i, OPEN)])


def _rooms(near, deal, state):
    """Return the places of the room of each part, in no told order."""
    return [reached_places(near, _lot_for(state, i), root) for i, root in enumerate(deal[0])]


def _is_full(deal, state, i):
    """Return whether more places are put to part i than its size."""
    return state.count(i) > deal[1][i]


def _is_short(deal, state, room, i):
    """Return whether the room of part i is too small, or some place that is put to it is not there."""
    if len(room) < deal[1][i]:
        return True
    return any([part == i and place not in room for place, part in enumerate(state)])


def _takers(deal, state, rooms, place):
    """Return how many parts that want places have the place in their room."""
    sizes = deal[1]
    return sum([state.count(i) < sizes[i] and place in room for i, room in enumerate(rooms)])


def _is_lost(deal, state, rooms, place):
    """Return whether the place is open and no part can take it."""
    return state[place] == OPEN and _takers(deal, state, rooms, place) == 0


def find_parts(web, deal):
    """Return parts of the web for the deal, or None if there are none."""
    return _parts_and_tree(every_neighbours(web), deal, first_state(web, deal))[0]


def find_tree(web, deal):
    """Return a tree for the deal, or None if there is none."""
    return _parts_and_tree(every_neighbours(web), deal, first_state(web, deal))[1]


def _parts_and_tree(near, deal, state):
    """Return a tuple of parts that go on from the state and of a tree for it, one of which is None."""
    rooms = _rooms(near, deal, state)
    tree = _find_leaf(deal, state, rooms)
    if tree is not None:
        return (None, tree)
    # With no place open, parts that are neither full nor short hang and have their sizes.
    if OPEN not in state:
        return (state, None)
    place = _place_to_put(near, deal, state, rooms)
    pages = []
    for i in range(len(rooms)):
        parts, page = _parts_and_tree(near, deal, put(state, place, i))
        if parts is not None:
            return (parts, None)
        pages.append(page)
    return (None, ("cases", place, tuple(pages)))


def _find_leaf(deal, state, rooms):
    """Return a tree for the state that is not cases, or None if there is none."""
    for i, room in enumerate(rooms):
        if _is_full(deal, state, i):
            return ("full", i)
        if _is_short(deal, state, room, i):
            return ("short", i)
    for place in range(len(state)):
        if _is_lost(deal, state, rooms, place):
            return ("lost", place)
    return None


def _place_to_put(near, deal, state, rooms):
    """Return the open place that is put next."""
    # Few takers leave few cases, and a place with many neighbours narrows many rooms: so trees stay small.
    choices = [
        (_takers(deal, state, rooms, place), -len(near[place]), place)
        for place, part in enumerate(state) if part == OPEN
    ]
    return min(choices)[2]


def is_tree(web, deal, value):
    """Return whether the value is a tree for the deal."""
    return _is_tree_for(every_neighbours(web), deal, first_state(web, deal), value)


def _is_tree_for(near, deal, state, value):
    """Return whether the value is a tree for the state."""
    if not isinstance(value, tuple):
        return False
    if len(value) == 3:
        word, place, pages = value
        return word == "cases" and _are_cases(near, deal, state, place, pages)
    return len(value) == 2 and _is_leaf(near, deal, state, value)


def _are_cases(near, deal, state, place, pages):
    """Return whether the place is open and the pages are trees for the states in which it is put to each part."""
    if not is_place(len(state), place) or state[place] != OPEN:
        return False
    if not isinstance(pages, tuple) or len(pages) != len(deal[0]):
        return False
    # A loop that stops at the first wrong page: a value may have very many of them.
    for i, page in enumerate(pages):
        if not _is_tree_for(near, deal, put(state, place, i), page):
            return False
    return True


def _is_leaf(near, deal, state, value):
    """Return whether the tuple of two values is a tree for the state."""
    word, at = value
    rooms = _rooms(near, deal, state)
    if word == "lost":
        return is_place(len(state), at) and _is_lost(deal, state, rooms, at)
    if not is_place(len(rooms), at):
        return False
    if word == "full":
        return _is_full(deal, state, at)
    return word == "short" and _is_short(deal, state, rooms[at], at)


def leaves(tree):
    """Return the number of parts of the tree, itself included, that are not cases."""
    if tree[0] != "cases":
        return 1
    return sum([leaves(page) for page in tree[2]])
