"""Webs, odd values and plain reference answers for the tests."""

from itertools import combinations, permutations, product
from random import Random

RING = (4, ((0, 1), (0, 3), (1, 2), (2, 3)))
PATH = (4, ((0, 1), (1, 2), (2, 3)))
STAR = (4, ((0, 1), (0, 2), (0, 3)))
KITE = (5, ((0, 1), (0, 2), (1, 2), (1, 3), (2, 3), (3, 4)))


def all_ties(n):
    return tuple(combinations(range(n), 2))


def bare(n):
    return (n, ())


def full(n):
    return (n, all_ties(n))


def nest(depth):
    value = ()
    for at in range(depth):
        value = (value,) if at % 2 else [value]
    return value


# Built anew at each call, so that no test sees what another one changed.
def odd_values():
    return [
        None, True, False, 0, 1, 2, 3, -1, -2, 12, 13, 10 ** 99, -(10 ** 99),
        "", "0", "01", "(1, ())", "tie 0 1\n", "\t~ ",
        (), (0,), (1,), (0, 1), (1, 0), (0, 0), (True,), (False,), (False, True), (None,), ((),), ((), ()),
        (0, 1, 2), ("0", "1"), ("a",), ((0,),), ((0, 1),), ((0, 1), (0, 2)), ([0, 1],), (0, None), (0, "a"), (0, (1,)),
        [], [0], [0, 1], [()], [(0, 1)], [1, ()], [[0], [1]],
        {}, {0: 1}, {(0, 1): ()}, {1: ()}, {"a": [1, {}]},
        (1, []), (1, {}), (1, None), (1, ""), (1, 0), ((), 1), (1, (), ()), (True, ()), ("1", ()), ([1], ()),
        nest(40), tuple(range(20000)), list(range(3000)), ((0, 1),) * 5000, "x" * 1000,
    ]


def replacements():
    return [None, True, False, 0, 1, 2, 3, 4, -1, -2, "", "1", (), (0,), (1, 0), (0, 1), [], [0], {}, {0: 0}, 10 ** 99]


def mutants(value):
    """Values that differ from the value at one place, at any depth."""
    out = replacements()
    if isinstance(value, tuple):
        out += [list(value), value[::-1], value + value, dict(enumerate(value)), str(value), (value,)]
        for at, item in enumerate(value):
            before, after = value[:at], value[at + 1:]
            out.append(before + after)
            out.append(before + (item,) + (item,) + after)
            out += [before + (other,) + after for other in mutants(item)]
            out += [before + (other, item) + after for other in replacements()]
        out += [value + (other,) for other in replacements()]
    elif isinstance(value, str):
        out += ["full", "short", "lost", "cases", value.upper(), value[:-1], value + " ", [value], (value,), {value: value}]
    elif isinstance(value, dict):
        out += dict_mutants(value)
    elif isinstance(value, int):
        out += [value + 1, value - 1, -value, [value], (value,), str(value), bool(value)]
    return out


def dict_mutants(value):
    """Dicts with one entry left out, put in, or changed, and other values like the dict."""
    entries = list(value.items())
    out = [entries, tuple(entries), list(value), str(value), dict(entries[::-1]), {worth: key for key, worth in entries}]
    for at, (key, worth) in enumerate(entries):
        others = entries[:at] + entries[at + 1:]
        out.append(dict(others))
        out += [dict(others + [(key, other)]) for other in mutants(worth)]
        out += [dict(others + [(other, worth)]) for other in mutants(key) if is_key(other)]
        out += [dict(entries + [(other, worth)]) for other in mutants(key) if is_key(other)]
    return out


def is_key(value):
    try:
        hash(value)
    except TypeError:
        return False
    return True


def rebuilt(value):
    """An equal value none of whose tuples, lists or dicts is one of the value."""
    if isinstance(value, (tuple, list)):
        items = [rebuilt(item) for item in value]
        return tuple(items) if isinstance(value, tuple) else items
    if isinstance(value, dict):
        return {rebuilt(key): rebuilt(item) for key, item in value.items()}
    return value


def every_web(n):
    ties = all_ties(n)
    return [(n, chosen) for many in range(len(ties) + 1) for chosen in combinations(ties, many)]


def sampled_webs(n, many, seed):
    """Webs of n places, the same at each call, with from no tie at all to all of them."""
    draw = Random(seed)
    ties = all_ties(n)
    return [(n, tuple(sorted(draw.sample(ties, draw.randint(0, len(ties)))))) for _ in range(many)]


def ring(n):
    return (n, tuple(sorted([(at, at + 1) for at in range(n - 1)] + [(0, n - 1)])))


def path(n):
    return (n, tuple((at, at + 1) for at in range(n - 1)))


def star(n):
    return (n, tuple((0, at) for at in range(1, n)))


def two_sides(left, right):
    """The web in which each of the first places is tied to each of the others, and to no other one."""
    return (left + right, tuple(product(range(left), range(left, left + right))))


def grid(rows, columns):
    """The web of a board, each place tied to the one beside it and the one below it."""
    n = rows * columns
    beside = [(at, at + 1) for at in range(n) if (at + 1) % columns]
    return (n, tuple(sorted(beside + [(at, at + columns) for at in range(n - columns)])))


GREAT = [
    bare(12), full(12), path(12), ring(12), star(12), grid(3, 4), grid(2, 6), two_sides(2, 10), two_sides(3, 9),
    two_sides(5, 7), two_sides(6, 6),
    (12, tuple(tie for tie in all_ties(12) if tie != (0, 11))),
    (12, tuple(tie for tie in all_ties(12) if tie[0] // 2 != tie[1] // 2)),
    (12, tuple(tie for tie in all_ties(12) if tie[0] // 6 == tie[1] // 6)),
]


def every_lot(n):
    return [lot for many in range(n + 1) for lot in combinations(range(n), many)]


def split_sizes(n, k):
    """All sizes by k - 1 marks set between n places."""
    out = []
    for marks in combinations(range(1, n), k - 1):
        ends = (0,) + marks + (n,)
        out.append(tuple(ends[i + 1] - ends[i] for i in range(k)))
    return sorted(out)


def every_deal(n, most=12):
    return [
        (roots, sizes)
        for k in range(1, min(n, most) + 1) for roots in permutations(range(n), k) for sizes in split_sizes(n, k)
    ]


def told_pieces(web, lot):
    """The pieces of a lot, found by joining the two pieces of each tie."""
    groups = [{place} for place in lot]
    for a, b in web[1]:
        if a in lot and b in lot:
            one = [group for group in groups if a in group][0]
            other = [group for group in groups if b in group][0]
            if one is not other:
                groups.remove(other)
                one |= other
    return tuple(sorted(tuple(sorted(group)) for group in groups))


def told_parts(web, deal, dealing):
    """Whether the dealing, a right one to as many roots, is parts for the deal."""
    for i, (root, size) in enumerate(zip(*deal)):
        lot = tuple(place for place in range(web[0]) if dealing[place] == i)
        if root not in lot or len(lot) != size or len(told_pieces(web, lot)) != 1:
            return False
    return True


def other_places(web, places):
    return tuple(place for place in range(web[0]) if place not in places)


def told_cut(web, lot):
    return len(told_pieces(web, other_places(web, lot))) > 1


def told_way(web, a, b, way):
    """Whether the tuple of places is a way from a to b."""
    if len(way) < 2 or way[0] != a or way[-1] != b or sorted(set(way)) != sorted(way):
        return False
    return all((min(step), max(step)) in web[1] for step in zip(way, way[1:]))


def told_paper(web, k, paper):
    """Whether the dict, from tuples of places to tuples of tuples of places, is a paper."""
    if set(paper) != set(all_ties(web[0])) - set(web[1]):
        return False
    for (a, b), ways in paper.items():
        inner = [place for way in ways for place in way if place not in (a, b)]
        if len(ways) != k or len(inner) != len(set(inner)) or not all(told_way(web, a, b, way) for way in ways):
            return False
    return True


def least_cut(web):
    """The number of places of the least cut, by all lots, or None if there is no cut."""
    return min((len(lot) for lot in every_lot(web[0]) if told_cut(web, lot)), default=None)


def told_bar(web, k, deal):
    """Whether the deal of the web is a bar for k."""
    roots, sizes = deal
    if len(roots) != k or sizes[:-1] != (1,) * (k - 1):
        return False
    return len(told_pieces(web, other_places(web, roots[:-1]))) > 1


def told_order(web, a, b, order):
    """Whether the tuple of places is an order from a to b."""
    if sorted(order) != list(range(web[0])) or (order[0], order[-1]) != (a, b):
        return False
    ranks = {place: at for at, place in enumerate(order)}
    tied = [(ranks[x], ranks[y]) for x, y in web[1]]
    return all(
        any(at in tie and min(tie) < at for tie in tied) and any(at in tie and max(tie) > at for tie in tied)
        for at in range(1, web[0] - 1)
    )


def told_loose(web, a, b, place, lot):
    """Whether the place and the lot are a loose end for a and b."""
    if not lot or {a, b, place} & set(lot):
        return False
    return all({x, y} <= {*lot, place} for x, y in web[1] if x in lot or y in lot)


def served_deals(web, k):
    """All deals with k roots for which some dealing, of all, is parts."""
    n = web[0]
    hanging = {lot for lot in every_lot(n) if len(told_pieces(web, lot)) == 1}
    served = set()
    for dealing in product(range(k), repeat=n):
        lots = [tuple(place for place in range(n) if dealing[place] == i) for i in range(k)]
        if all(lot in hanging for lot in lots):
            sizes = tuple(len(lot) for lot in lots)
            served.update((roots, sizes) for roots in product(*lots))
    return served


def told_tree(web, deal, state, tree):
    """Whether the value, of strings, integers and tuples, is a tree for the state."""
    roots, sizes = deal
    k, n = len(roots), web[0]
    if not isinstance(tree, tuple) or not tree:
        return False
    rooms = []
    for i, root in enumerate(roots):
        lot = tuple(place for place in range(n) if state[place] in (i, -1))
        rooms.append([piece for piece in told_pieces(web, lot) if root in piece][0])
    if tree[0] in ("full", "short") and len(tree) == 2 and type(tree[1]) is int and tree[1] in range(k):
        i = tree[1]
        mine = {place for place in range(n) if state[place] == i}
        if tree[0] == "full":
            return len(mine) > sizes[i]
        return not mine <= set(rooms[i]) or len(rooms[i]) < sizes[i]
    if len(tree) < 2 or type(tree[1]) is not int or tree[1] not in range(n) or state[tree[1]] != -1:
        return False
    p = tree[1]
    if tree[0] == "lost" and len(tree) == 2:
        return not any(p in rooms[i] and list(state).count(i) < sizes[i] for i in range(k))
    if tree[0] != "cases" or len(tree) != 3 or not isinstance(tree[2], tuple) or len(tree[2]) != k:
        return False
    return all(told_tree(web, deal, state[:p] + (i,) + state[p + 1:], tree[2][i]) for i in range(k))


def start(web, deal):
    """The first state."""
    state = [-1] * web[0]
    for i, root in enumerate(deal[0]):
        state[root] = i
    return tuple(state)
