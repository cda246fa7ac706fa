"""Point 1 at every door: what is handed in wrong is refused, each class alone and in the told turn."""

from leastrim.cubes import cube_cost, cube_fewest, cube_set, pushed, pushed_down
from leastrim.errors import BadCells, BadCount, BadKind, BadNumber, BadPlaces, BadTree, BadWay, BadWays, BadWeb
from leastrim.floors import floor_cost, floor_fewest, floor_set
from leastrim.small import by_number, fewest, how_many, judged, nested
from leastrim.trees import tree_cost, tree_fewest, tree_set
from leastrim.webs import cost, rim
from tests.helpers import (GREAT, NO_CELLS, NO_KINDS, NO_NUMBERS, NO_PLACES, NO_TREES, NO_WEBS, Asking,
                           no_numbers_within, row, row_tree)

# What is good, what is not, and how the latter is refused. Webs, cubes and trees have four places here.
WEB = (row(4), NO_WEBS, BadWeb)
TREE = (row_tree(4), NO_TREES, BadTree)
PLACES = ([1, 2], NO_PLACES, BadPlaces)
COUNT = (1, no_numbers_within(0, 4), BadCount)
KIND = ("rim", NO_KINDS, BadKind)
NUMBER = (1, no_numbers_within(0, 1), BadNumber)
WAYS = (2, no_numbers_within(1, 40), BadWays)
LISTED_WAYS = (2, no_numbers_within(1, 10), BadWays)
WAY = (1, no_numbers_within(0, 1), BadWay)
CELLS = ([(0, 0), (0, 1)], NO_CELLS, BadCells)
CELL_COUNT = (5, [*NO_NUMBERS, -1, -2, -401, -GREAT], BadCount)

DOORS = [
    (rim, WEB, PLACES), (cost, WEB, PLACES, KIND),
    (fewest, WEB, COUNT, KIND), (how_many, WEB, COUNT, KIND), (by_number, WEB, COUNT, KIND, NUMBER),
    (judged, WEB, PLACES, KIND), (nested, WEB, KIND),
    (cube_fewest, WAYS, COUNT, KIND), (cube_set, LISTED_WAYS, COUNT, KIND), (cube_cost, LISTED_WAYS, PLACES, KIND),
    (pushed, LISTED_WAYS, PLACES, WAY), (pushed_down, LISTED_WAYS, PLACES),
    (floor_fewest, CELL_COUNT, KIND), (floor_set, CELL_COUNT, KIND), (floor_cost, CELLS, KIND),
    (tree_fewest, TREE, COUNT, KIND), (tree_set, TREE, COUNT, KIND), (tree_cost, TREE, PLACES, KIND),
]


class Doors(Asking):
    def test_what_is_good_goes(self):
        for ask, *things in DOORS:
            ask(*[good for good, wrong, refusal in things])

    def test_each_alone(self):
        for ask, *things in DOORS:
            for at, (good, wrong, refusal) in enumerate(things):
                for thing in wrong:
                    handed = [each[0] for each in things]
                    handed[at] = thing
                    self.refused(refusal, ask, *handed)

    def test_the_earlier_goes_ahead_of_each_later(self):
        for ask, *things in DOORS:
            for first in range(len(things)):
                for later in range(first + 1, len(things)):
                    for thing in things[first][1]:
                        for other in things[later][1][::11] + things[later][1][-1:]:
                            handed = [each[0] for each in things]
                            handed[first], handed[later] = thing, other
                            self.refused(things[first][2], ask, *handed)
                    for other in things[later][1]:
                        handed = [each[0] for each in things]
                        handed[first], handed[later] = things[first][1][-1], other
                        self.refused(things[first][2], ask, *handed)

    def test_all_wrong_at_once(self):
        for ask, *things in DOORS:
            for first in range(len(things)):
                handed = [good for good, wrong, refusal in things[:first]]
                for thing in (None, True, "x", {}, Asking):
                    self.refused(things[first][2], ask, *handed, *[thing] * (len(things) - first))


class MoreThanFourHundred(Asking):
    def test_the_kind_goes_ahead(self):
        for many in (401, 402, 1000, GREAT):
            for kind in ("rim", "ties"):
                self.refused(BadCount, floor_set, many, kind)
            for kind in NO_KINDS:
                self.refused(BadKind, floor_set, many, kind)

    def test_no_count_at_all_goes_ahead_of_the_kind(self):
        for many in (-1, None, True, "401", [401], -GREAT):
            for kind in NO_KINDS:
                self.refused(BadCount, floor_set, many, kind)
                self.refused(BadCount, floor_fewest, many, kind)

    def test_only_the_list_is_limited(self):
        self.assertEqual(floor_fewest(401, "ties"), 82)
        self.assertEqual(floor_fewest(401, "rim"), 59)


class Limits(Asking):
    """What is just within a limit goes, and what is just beyond it does not."""

    def test_places_of_a_web(self):
        self.assertEqual(fewest((10, []), 10, "rim"), 0)
        self.assertEqual(fewest((1, []), 0, "rim"), 0)
        self.assertEqual(how_many((10, []), 5, "ties"), 252)
        self.assertEqual(by_number((10, []), 5, "ties", 251), [5, 6, 7, 8, 9])
        self.refused(BadNumber, by_number, (10, []), 5, "ties", 252)
        self.assertEqual(nested((10, []), "rim"), list(range(10)))
        self.refused(BadWeb, nested, (11, []), "rim")
        for size in range(1, 11):
            for many in (0, size):
                self.assertEqual(fewest(row(size), many, "ties"), 0)
                self.assertEqual(by_number(row(size), many, "ties", 0), list(range(many)))
                self.refused(BadNumber, by_number, row(size), many, "ties", 1)
            for ask in (fewest, how_many):
                self.refused(BadCount, ask, row(size), size + 1, "rim")
                self.refused(BadCount, ask, row(size), -1, "rim")

    def test_ways_of_a_cube(self):
        for ways in range(1, 41):
            for kind in ("rim", "ties"):
                self.assertEqual(cube_fewest(ways, 0, kind), 0)
                self.assertEqual(cube_fewest(ways, 1, kind), ways)
                self.assertEqual(cube_fewest(ways, 2 ** ways, kind), 0)
            self.refused(BadCount, cube_fewest, ways, 2 ** ways + 1, "rim")
            self.refused(BadCount, cube_fewest, ways, -1, "rim")
        self.refused(BadWays, cube_fewest, 41, 0, "rim")

    def test_ways_of_a_listed_cube(self):
        for ways in range(1, 11):
            every = list(range(2 ** ways))
            for kind in ("rim", "ties"):
                self.assertEqual(cube_set(ways, 0, kind), [])
                self.assertEqual(cube_set(ways, 2 ** ways, kind), every)
                self.assertEqual(cube_cost(ways, every, kind), 0)
            self.assertEqual(pushed(ways, [2 ** ways - 1], ways - 1), [2 ** (ways - 1) - 1])
            self.assertEqual(pushed_down(ways, [2 ** ways - 1]), [0])
            self.refused(BadWay, pushed, ways, every, ways)
            self.refused(BadPlaces, pushed, ways, [2 ** ways], 0)
            self.refused(BadPlaces, pushed_down, ways, [2 ** ways])
            self.refused(BadPlaces, cube_cost, ways, [2 ** ways], "rim")
            self.refused(BadCount, cube_set, ways, 2 ** ways + 1, "rim")
        self.refused(BadWays, cube_set, 11, 0, "rim")
        self.refused(BadWays, cube_cost, 11, [], "rim")
        self.refused(BadWays, pushed, 11, [], 0)
        self.refused(BadWays, pushed_down, 11, [])

    def test_cells_of_the_floor(self):
        cells = [(0, at) for at in range(400)]
        self.assertEqual(floor_cost(cells, "ties"), 802)
        self.assertEqual(floor_cost([], "ties"), 0)
        self.refused(BadCells, floor_cost, cells + [(0, 400)], "ties")
        self.assertEqual(len(floor_set(400, "rim")), 400)
        self.assertEqual(floor_set(0, "rim"), [])
        self.refused(BadCount, floor_set, 401, "rim")

    def test_knots_of_a_tree(self):
        for size in range(1, 41):
            parents = row_tree(size)
            every = list(range(size))
            for kind in ("rim", "ties"):
                for many in (0, size):
                    self.assertEqual(tree_fewest(parents, many, kind), 0)
                    self.assertEqual(tree_set(parents, many, kind), every[:many])
                self.assertEqual(tree_cost(parents, every, kind), 0)
            for ask in (tree_fewest, tree_set):
                self.refused(BadCount, ask, parents, size + 1, "rim")
            self.refused(BadPlaces, tree_cost, parents, [size], "rim")
        self.refused(BadTree, tree_fewest, row_tree(41), 0, "rim")
        self.refused(BadTree, tree_set, [], 0, "rim")
