"""Webs, odd values and plain reference answers for the tests."""

from itertools import combinations, permutations

RING = (4, ((0, 1), (0, 3), (1, 2), (2, 3)))
PATH = (4, ((0, 1), (1, 2), (2, 3)))
STAR = (4, ((0, 1), (0, 2), (0, 3)))
KITE = (5, ((0, 1), (0, 2), (1, 2), (1, 3), (2, 3), (3, 4)))


def all_ties(n):
    return tuple(combinations(range(n), 2))


def bare(n):
    return (n, ())


def full(n):
    return (n, all_ties(n))


def nest(depth):
    value = ()
    for at in range(depth):
        value = (value,) if at % 2 else [value]
    return value


# Built anew at each call, so that no test sees what another one changed.
def odd_values():
    return [
        None, True, False, 0, 1, 2, 3, -1, -2, 12, 13, 10 ** 99, -(10 ** 99),
        "", "0", "01", "(1, ())", "tie 0 1\n", "\t~ ",
        (), (0,), (1,), (0, 1), (1, 0), (0, 0), (True,), (False,), (False, True), (None,), ((),), ((), ()),
        (0, 1, 2), ("0", "1"), ("a",), ((0,),), ((0, 1),), ((0, 1), (0, 2)), ([0, 1],), (0, None), (0, "a"), (0, (1,)),
        [], [0], [0, 1], [()], [(0, 1)], [1, ()], [[0], [1]],
        {}, {0: 1}, {(0, 1): ()}, {1: ()}, {"a": [1, {}]},
        (1, []), (1, {}), (1, None), (1, ""), (1, 0), ((), 1), (1, (), ()), (True, ()), ("1", ()), ([1], ()),
        nest(40), tuple(range(20000)), list(range(3000)), ((0, 1),) * 5000, "x" * 1000,
    ]


def replacements():
    return [None, True, False, 0, 1, 2, 3, 4, -1, -2, "", "1", (), (0,), (1, 0), (0, 1), [], [0], {}, {0: 0}, 10 ** 99]


def mutants(value):
    """Values that differ from the value at one place, at any depth."""
    out = replacements()
    if isinstance(value, tuple):
        out += [list(value), value[::-1], value + value, dict(enumerate(value)), str(value), (value,)]
        for at, item in enumerate(value):
            before, after = value[:at], value[at + 1:]
            out.append(before + after)
            out.append(before + (item,) + (item,) + after)
            out += [before + (other,) + after for other in mutants(item)]
            out += [before + (other, item) + after for other in replacements()]
        out += [value + (other,) for other in replacements()]
    elif isinstance(value, int):
        out += [value + 1, value - 1, -value, [value], (value,), str(value), bool(value)]
    return out


def every_web(n):
    ties = all_ties(n)
    return [(n, chosen) for many in range(len(ties) + 1) for chosen in combinations(ties, many)]


def every_lot(n):
    return [lot for many in range(n + 1) for lot in combinations(range(n), many)]


def split_sizes(n, k):
    """All sizes by k - 1 marks set between n places."""
    out = []
    for marks in combinations(range(1, n), k - 1):
        ends = (0,) + marks + (n,)
        out.append(tuple(ends[i + 1] - ends[i] for i in range(k)))
    return sorted(out)


def every_deal(n):
    return [
        (roots, sizes)
        for k in range(1, n + 1) for roots in permutations(range(n), k) for sizes in split_sizes(n, k)
    ]


def told_pieces(web, lot):
    """The pieces of a lot, found by joining the two pieces of each tie."""
    groups = [{place} for place in lot]
    for a, b in web[1]:
        if a in lot and b in lot:
            one = [group for group in groups if a in group][0]
            other = [group for group in groups if b in group][0]
            if one is not other:
                groups.remove(other)
                one |= other
    return tuple(sorted(tuple(sorted(group)) for group in groups))


def told_parts(web, deal, dealing):
    """Whether the dealing, a right one to as many roots, is parts for the deal."""
    for i, (root, size) in enumerate(zip(*deal)):
        lot = tuple(place for place in range(web[0]) if dealing[place] == i)
        if root not in lot or len(lot) != size or len(told_pieces(web, lot)) != 1:
            return False
    return True
