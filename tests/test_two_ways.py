"""One thing told two ways: a tree as a web, and a cube of few ways as a web."""

from leastrim.answers import Least
from leastrim.cubes import cube_cost, cube_fewest, cube_set
from leastrim.small import by_number, fewest, judged
from leastrim.trees import tree_cost, tree_fewest, tree_set
from leastrim.webs import cost
from tests.helpers import KINDS, Asking, all_lists, all_trees, cube_web, great_trees, tree_web


class TreesAsWebs(Asking):
    def test_trees_of_few_knots(self):
        trees = [tree for size in range(1, 6) for tree in all_trees(size)]
        for parents in trees + great_trees(7) + great_trees(10):
            web = tree_web(parents)
            for kind in KINDS:
                for many in range(web[0] + 1):
                    self.assertEqual(tree_fewest(parents, many, kind), fewest(web, many, kind), (parents, many, kind))
                    self.assertEqual(tree_set(parents, many, kind), by_number(web, many, kind, 0))
                    self.assertIs(type(judged(web, tree_set(parents, many, kind), kind)), Least)
                for places in all_lists(web[0])[::1 if web[0] < 10 else 9]:
                    self.assertEqual(tree_cost(parents, places, kind), cost(web, places, kind), (parents, places))


class CubesAsWebs(Asking):
    def test_cubes_of_few_ways(self):
        for ways in (1, 2, 3):
            web = cube_web(ways)
            for kind in KINDS:
                for many in range(web[0] + 1):
                    self.assertEqual(cube_fewest(ways, many, kind), fewest(web, many, kind), (ways, many, kind))
                    self.assertIs(type(judged(web, cube_set(ways, many, kind), kind)), Least)
                for places in all_lists(web[0]):
                    self.assertEqual(cube_cost(ways, places, kind), cost(web, places, kind), (ways, places))
