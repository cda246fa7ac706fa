"""Webs, wrong things and a slow second reckoning that the tests share."""

from itertools import combinations

KINDS = ("rim", "ties")


class Stranger:
    """A thing of a kind that nothing here asks for."""


class Agreeing:
    """A thing that says of itself that it is equal to anything."""

    def __eq__(self, other):
        return True


NO_NUMBERS = [True, False, None, "1", "", b"1", [1], [], (1,), (), {1: 1}, {1}, Stranger(), int, len]


def bare(size):
    return (size, [])


def row(size):
    return (size, [(at, at + 1) for at in range(size - 1)])


def ring(size):
    return (size, sorted([(at, at + 1) for at in range(size - 1)] + [(0, size - 1)]))


def star(size, middle=0):
    return (size, sorted((min(at, middle), max(at, middle)) for at in range(size) if at != middle))


def full(size):
    return (size, list(combinations(range(size), 2)))


def mixed(size, seed):
    """A web with about half of its ties, always the same for the same seed."""
    ties = []
    state = seed
    for tie in combinations(range(size), 2):
        state = (state * 1103515245 + 12345) & 0x7FFFFFFF
        if state >> 16 & 1:
            ties.append(tie)
    return (size, ties)


PETERSEN = (10, sorted(
    [(0, 1), (1, 2), (2, 3), (3, 4), (0, 4), (5, 7), (7, 9), (6, 9), (6, 8), (5, 8)]
    + [(at, at + 5) for at in range(5)]))
CUBE = (8, [(low, high) for low, high in combinations(range(8), 2) if bin(low ^ high).count("1") == 1])
APART = (7, [(0, 1), (0, 2), (1, 2), (3, 4), (5, 6)])


def many_webs(most=10):
    webs = []
    for size in range(1, most + 1):
        webs += [bare(size), row(size), star(size), star(size, size - 1), full(size)]
        webs += [mixed(size, seed) for seed in (3, 17)]
        if size >= 3:
            webs.append(ring(size))
    return webs + [web for web in (PETERSEN, CUBE, APART) if web[0] <= most]


def lists_of(size, many):
    return [list(chosen) for chosen in combinations(range(size), many)]


def all_lists(size):
    return [chosen for many in range(size + 1) for chosen in lists_of(size, many)]


def told_rim(web, places):
    """The rim, place by place and straight from the words of the document."""
    size, ties = web
    return [outside for outside in range(size)
            if outside not in places
            and any((outside, place) in ties or (place, outside) in ties for place in places)]


def told_cost(web, places, kind):
    if kind == "rim":
        return len(told_rim(web, places))
    return sum(len({low, high} & set(places)) == 1 for low, high in web[1])


def deep(thing):
    """A text of the whole of it, to see afterwards whether anything was changed."""
    return repr(thing)


NO_WEBS = [
    # no tuple, no pair
    *NO_NUMBERS, 3, 0, -1, "ab", [3, []], [(3, [])], (3,), ([],), (3, [], []), (3, [], None), ([], 3),
    # no number of places
    (0, []), (-1, []), (11, []), (12, [(0, 1)]), (10 ** 400, []), (-10 ** 400, []),
    *[(thing, []) for thing in NO_NUMBERS],
    # no list of ties
    *[(3, thing) for thing in NO_NUMBERS if thing != []],
    (3, ((0, 1),)), (3, {(0, 1): True}), (3, {(0, 1)}), (3, (0, 1)), (3, 1), (3, "01"),
    # no pairs of two places
    (3, [[0, 1]]), (3, [(0, 1), [1, 2]]), (3, ["01"]), (3, [(0,)]), (3, [()]), (3, [(0, 1, 2)]),
    (3, [0, 1]), (3, [None]), (3, [True]), (3, [{0, 1}]), (3, [{0: 1, 1: 2}]), (3, [b"\x00\x01"]),
    (3, [((0, 1), (1, 2))]), (3, [[(0, 1)]]), (3, [Stranger()]),
    *[(3, [(thing, 2)]) for thing in NO_NUMBERS], *[(3, [(0, thing)]) for thing in NO_NUMBERS],
    # places that are not there
    (3, [(0, 3)]), (3, [(2, 3)]), (3, [(3, 4)]), (3, [(-1, 0)]), (3, [(-2, -1)]), (1, [(0, 1)]),
    (10, [(0, 10)]), (3, [(0, 10 ** 400)]), (3, [(-10 ** 400, 0)]),
    # one place twice, the greater first
    (3, [(0, 0)]), (3, [(2, 2)]), (1, [(0, 0)]), (3, [(1, 0)]), (3, [(0, 1), (2, 1)]),
    # not rising, one twice
    (3, [(1, 2), (0, 1)]), (3, [(0, 2), (0, 1)]), (3, [(0, 1), (0, 1)]), (3, [(0, 1), (1, 2), (1, 2)]),
    (4, [(0, 3), (1, 2), (0, 1)]), (4, [(0, 1), (2, 3), (1, 3)]),
]

# No chosen places of a web of four.
NO_PLACES = [
    *[thing for thing in NO_NUMBERS if thing not in ([], [1])], 0, 1, 4, -1, "01", b"\x00\x01",
    (0, 1), {0, 1}, {0: 1, 1: 2}, range(2),
    [1, 0], [0, 2, 1], [3, 2, 1, 0], [0, 0], [1, 1, 2], [0, 3, 3], [0, 1, 2, 3, 3], [0, 0, 1, 2, 3],
    [4], [0, 4], [0, 1, 2, 3, 4], [10 ** 400], [-1], [-1, 0], [-4, 1], [-10 ** 400],
    *[[thing] for thing in NO_NUMBERS], *[[0, thing] for thing in NO_NUMBERS],
    *[[thing, 3] for thing in NO_NUMBERS],
]

NO_KINDS = [*NO_NUMBERS, Agreeing(), 0, 1, -1, "rims", "tie", "ri", "im", "r", "Rim", "RIM", "Ties",
            "rim ", " rim", "ties ", "ties\n", "rim\n", "tiess", "rimties", "rim,ties", "places", "~",
            b"rim", b"ties", ["rim"], ("rim",), ("rim", "ties"), {"rim"}, {"ties": 1}]
