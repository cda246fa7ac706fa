"""Webs, trees, wrong things and a slow second reckoning that the tests share."""

import unittest
from itertools import combinations

from leastrim.errors import RimError

KINDS = ("rim", "ties")


class Asking(unittest.TestCase):
    """Questions on what is told and what is refused."""

    def is_number(self, thing):
        self.assertIs(type(thing), int)

    def are_numbers(self, thing):
        """A list of whole numbers and nothing else."""
        self.assertIs(type(thing), list)
        self.assertEqual({type(member) for member in thing} - {int}, set())

    def refused(self, wanted, ask, *handed):
        before = deep(handed)
        try:
            told = ask(*handed)
        except RimError as refusal:
            found = type(refusal)
        else:
            self.fail(f"{ask.__name__}{before} told {told!r}")
        self.assertIs(found, wanted, (ask.__name__, before))
        self.assertEqual(deep(handed), before)


class Stranger:
    """A thing of a kind that nothing here asks for."""


class Agreeing:
    """A thing that says of itself that it is equal to anything."""

    def __eq__(self, other):
        return True


NO_NUMBERS = [True, False, None, "1", "", b"1", [1], [], (1,), (), {1: 1}, {1}, Stranger(), int, len]


def bare(size):
    return (size, [])


def row(size):
    return (size, [(at, at + 1) for at in range(size - 1)])


def ring(size):
    return (size, sorted([(at, at + 1) for at in range(size - 1)] + [(0, size - 1)]))


def star(size, middle=0):
    return (size, sorted((min(at, middle), max(at, middle)) for at in range(size) if at != middle))


def full(size):
    return (size, list(combinations(range(size), 2)))


def mixed(size, seed):
    """A web with about half of its ties, always the same for the same seed."""
    ties = []
    state = seed
    for tie in combinations(range(size), 2):
        state = (state * 1103515245 + 12345) & 0x7FFFFFFF
        if state >> 16 & 1:
            ties.append(tie)
    return (size, ties)


PETERSEN = (10, sorted(
    [(0, 1), (1, 2), (2, 3), (3, 4), (0, 4), (5, 7), (7, 9), (6, 9), (6, 8), (5, 8)]
    + [(at, at + 5) for at in range(5)]))
CUBE = (8, [(low, high) for low, high in combinations(range(8), 2) if bin(low ^ high).count("1") == 1])
APART = (7, [(0, 1), (0, 2), (1, 2), (3, 4), (5, 6)])


def many_webs(most=10):
    webs = []
    for size in range(1, most + 1):
        webs += [bare(size), row(size), star(size), star(size, size - 1), full(size)]
        webs += [mixed(size, seed) for seed in (3, 17)]
        if size >= 3:
            webs.append(ring(size))
    return webs + [web for web in (PETERSEN, CUBE, APART) if web[0] <= most]


def all_webs(size):
    """Every web of so many places."""
    pairs = list(combinations(range(size), 2))
    return [(size, list(ties)) for many in range(len(pairs) + 1) for ties in combinations(pairs, many)]


def all_trees(size):
    """Every tree of so many knots."""
    trees = [[-1]]
    for knot in range(1, size):
        trees = [tree + [parent] for tree in trees for parent in range(knot)]
    return trees


def mixed_tree(size, seed, reach=40):
    """A tree of some shape, always the same for the same seed; no parent is further back than the reach."""
    tree = [-1]
    state = seed
    for knot in range(1, size):
        state = (state * 1103515245 + 12345) & 0x7FFFFFFF
        back = min(knot, reach)
        tree.append(knot - 1 - (state >> 16) % back)
    return tree


def row_tree(size):
    return list(range(-1, size - 1))


def star_tree(size):
    return [-1] + [0] * (size - 1)


def great_trees(size):
    """Trees of many shapes: rows, stars, bent rows, twos at each knot, combs, brooms and others."""
    trees = [row_tree(size), star_tree(size)]
    trees.append([-1] + [max(0, knot - 2) for knot in range(1, size)])
    trees.append([-1] + [(knot - 1) // 2 for knot in range(1, size)])
    trees.append([-1] + [(knot - 1) // 3 for knot in range(1, size)])
    trees.append([-1] + [knot - 1 if knot % 2 else max(0, knot - 2) for knot in range(1, size)])
    trees.append([-1] + [min(knot - 1, size // 2) for knot in range(1, size)])
    trees += [mixed_tree(size, seed, reach) for seed in (1, 2, 3) for reach in (2, 5, 40)]
    return trees


def tree_web(parents):
    """The places and ties of a tree, in the form of a web (though it may have more than ten places)."""
    return (len(parents), sorted((parents[knot], knot) for knot in range(1, len(parents))))


def cube_web(ways):
    """The places and ties of a cube, in the form of a web (though it may have more than ten places)."""
    size = 2 ** ways
    return (size, sorted((low, low + 2 ** way) for low in range(size) for way in range(ways)
                         if low // 2 ** way % 2 == 0))


def lists_of(size, many):
    return [list(chosen) for chosen in combinations(range(size), many)]


def all_lists(size):
    return [chosen for many in range(size + 1) for chosen in lists_of(size, many)]


def told_rim(web, places):
    """The rim, place by place and straight from the words of the document."""
    size, ties = web[0], set(web[1])
    return [outside for outside in range(size)
            if outside not in places
            and any((outside, place) in ties or (place, outside) in ties for place in places)]


def told_cost(web, places, kind):
    if kind == "rim":
        return len(told_rim(web, places))
    return sum(len({low, high} & set(places)) == 1 for low, high in web[1])


def costs_of(web, kind):
    """What each list of places costs, by the tests' own reckoning."""
    return {tuple(places): told_cost(web, places, kind) for places in all_lists(web[0])}


def least_of(costs, many):
    """The fewest that so many cost, and all lists that cost just so much, in the order of lists."""
    rows = sorted(places for places in costs if len(places) == many)
    low = min(costs[places] for places in rows)
    return low, [list(places) for places in rows if costs[places] == low]


def deep(thing):
    """A text of the whole of it, to see afterwards whether anything was changed."""
    return repr(thing)


NO_WEBS = [
    # no tuple, no pair
    *NO_NUMBERS, 3, 0, -1, "ab", [3, []], [(3, [])], (3,), ([],), (3, [], []), (3, [], None), ([], 3),
    # no number of places
    (0, []), (-1, []), (11, []), (12, [(0, 1)]), (10 ** 400, []), (-10 ** 400, []),
    *[(thing, []) for thing in NO_NUMBERS],
    # no list of ties
    *[(3, thing) for thing in NO_NUMBERS if thing != []],
    (3, ((0, 1),)), (3, {(0, 1): True}), (3, {(0, 1)}), (3, (0, 1)), (3, 1), (3, "01"),
    # no pairs of two places
    (3, [[0, 1]]), (3, [(0, 1), [1, 2]]), (3, ["01"]), (3, [(0,)]), (3, [()]), (3, [(0, 1, 2)]),
    (3, [0, 1]), (3, [None]), (3, [True]), (3, [{0, 1}]), (3, [{0: 1, 1: 2}]), (3, [b"\x00\x01"]),
    (3, [((0, 1), (1, 2))]), (3, [[(0, 1)]]), (3, [Stranger()]),
    *[(3, [(thing, 2)]) for thing in NO_NUMBERS], *[(3, [(0, thing)]) for thing in NO_NUMBERS],
    # places that are not there
    (3, [(0, 3)]), (3, [(2, 3)]), (3, [(3, 4)]), (3, [(-1, 0)]), (3, [(-2, -1)]), (1, [(0, 1)]),
    (10, [(0, 10)]), (3, [(0, 10 ** 400)]), (3, [(-10 ** 400, 0)]),
    # one place twice, the greater first
    (3, [(0, 0)]), (3, [(2, 2)]), (1, [(0, 0)]), (3, [(1, 0)]), (3, [(0, 1), (2, 1)]),
    # not rising, one twice
    (3, [(1, 2), (0, 1)]), (3, [(0, 2), (0, 1)]), (3, [(0, 1), (0, 1)]), (3, [(0, 1), (1, 2), (1, 2)]),
    (4, [(0, 3), (1, 2), (0, 1)]), (4, [(0, 1), (2, 3), (1, 3)]),
]

# No chosen places of a web of four.
NO_PLACES = [
    *[thing for thing in NO_NUMBERS if thing not in ([], [1])], 0, 1, 4, -1, "01", b"\x00\x01",
    (0, 1), {0, 1}, {0: 1, 1: 2}, range(2),
    [1, 0], [0, 2, 1], [3, 2, 1, 0], [0, 0], [1, 1, 2], [0, 3, 3], [0, 1, 2, 3, 3], [0, 0, 1, 2, 3],
    [4], [0, 4], [0, 1, 2, 3, 4], [10 ** 400], [-1], [-1, 0], [-4, 1], [-10 ** 400],
    *[[thing] for thing in NO_NUMBERS], *[[0, thing] for thing in NO_NUMBERS],
    *[[thing, 3] for thing in NO_NUMBERS],
]

NO_KINDS = [*NO_NUMBERS, Agreeing(), 0, 1, -1, "rims", "tie", "ri", "im", "r", "Rim", "RIM", "Ties",
            "rim ", " rim", "ties ", "ties\n", "rim\n", "tiess", "rimties", "rim,ties", "places", "~",
            b"rim", b"ties", ["rim"], ("rim",), ("rim", "ties"), {"rim"}, {"ties": 1}]

GREAT = 10 ** 400


def no_numbers_within(low, high):
    """What is no number from the low to the high one: of other kinds, just beyond and far beyond."""
    return [*NO_NUMBERS, low - 1, low - 2, high + 1, high + 2, -GREAT, GREAT]


# No cells of the floor.
NO_CELLS = [
    *[thing for thing in NO_NUMBERS if thing != []], 0, 7, -1, "ab", (0, 0), ((0, 0),), {(0, 0)}, {(0, 0): 1},
    # no pairs
    [0], [0, 0], [[0, 0]], [(0, 0), [0, 1]], [()], [(0,)], [(0, 0, 0)], [(0, 0), (0, 1, 2)], ["00"], [b"00"],
    [{0, 1}], [{0: 0, 1: 1}], [((0, 0), (0, 1))], [[(0, 0)]], [(0, 0), ()], [(0, 0), 5, (1, 1)],
    # no two numbers
    *[[(thing, 0)] for thing in NO_NUMBERS], *[[(0, thing)] for thing in NO_NUMBERS],
    # no cell at each place within the list
    *[[(0, 0), (1, 1), (2, 2)][:at] + [thing] + [(3, 3), (4, 4)] for thing in NO_NUMBERS for at in range(4)],
    *[[(0, 0), (1, 1), (2, 2)][:at] + [(at, thing)] + [(3, 3), (4, 4)] for thing in NO_NUMBERS for at in range(4)],
    # not in order, one twice
    [(0, 1), (0, 0)], [(1, 0), (0, 1)], [(0, 0), (0, 0)], [(0, 0), (1, 1), (1, 1)], [(0, 0), (1, 1), (0, 1)],
    [(0, 0), (-1, 0)], [(0, -1), (0, -2)], [(GREAT, 0), (-GREAT, 0)], [(GREAT, GREAT), (GREAT, GREAT)],
    # too many
    [(0, at) for at in range(401)], [(at, -at) for at in range(402)], [(at, 0) for at in range(5000)],
    [(0, 0)] * 401, [None] * 401,
]

# No trees.
NO_TREES = [
    *NO_NUMBERS, -1, 0, 1, 40, "-1", (-1,), (-1, 0), {-1: 0}, {0: -1}, {-1}, [[-1]], [(-1,)], [(-1, 0)], [[-1, 0]],
    # knot 0 with another parent
    [0], [-2], [1], [-GREAT], [GREAT], [0, 0], [1, 0], [0, 1, 2], [-2, 0], [GREAT, 0],
    *[[thing] for thing in NO_NUMBERS], *[[thing, 0, 1] for thing in NO_NUMBERS],
    # another knot with no earlier one
    [-1, -1], [-1, 1], [-1, 2], [-1, 0, 2], [-1, 0, 3], [-1, 0, -1], [-1, 2, 0], [-1, 0, 1, -2], [-1, GREAT],
    [-1, -GREAT], [-1, 0, 1, 2, 5], [-1, 0, 1, 2, 4, 3],
    *[[-1, 0, 1, 2][:at] + [thing] + [0, 0] for thing in NO_NUMBERS for at in range(1, 5)],
    *[[-1] + [0] * 38 + [thing] for thing in [*NO_NUMBERS, -1, 39, 40]],
    # too many
    row_tree(41), star_tree(41), row_tree(42), star_tree(5000), [None] * 41,
]
