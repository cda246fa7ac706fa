"""Point 9: what knots of a tree cost at the fewest, the first such list, and what chosen knots cost."""

from itertools import combinations

from leastrim.trees import tree_cost, tree_fewest, tree_set
from tests.helpers import (KINDS, Asking, all_lists, all_trees, deep, great_trees, least_of, mixed_tree, row_tree,
                           star_tree, told_cost, tree_web)


def tree_costs(parents, kind):
    """What each list of knots costs, from the numbers of knots and ties alone."""
    size = len(parents)
    costs = {}
    for places in all_lists(size):
        out = [(knot, parents[knot]) for knot in range(1, size) if (knot in places) != (parents[knot] in places)]
        ends = [high if low in places else low for low, high in out]
        costs[tuple(places)] = len(out) if kind == "ties" else len(set(ends))
    return costs


def lows_by_marks(parents, kind):
    """For each count the fewest and the first list that costs it, all lists gone through as numbers in twos."""
    size = len(parents)
    near = [0] * size
    for knot in range(1, size):
        # The first knot is the greatest figure, so of two lists as long the first is the greater number.
        near[knot] |= 1 << size - 1 - parents[knot]
        near[parents[knot]] |= 1 << size - 1 - knot
    best = [(size * size, 0)] * (size + 1)
    for mark in range(1 << size):
        ends = [near[knot] & ~mark for knot in range(size) if mark >> size - 1 - knot & 1]
        reached = 0
        for end in ends:
            reached |= end
        paid = reached.bit_count() if kind == "rim" else sum(end.bit_count() for end in ends)
        many = mark.bit_count()
        best[many] = min(best[many], (paid, -mark))
    return [(paid, [knot for knot in range(size) if -mark >> size - 1 - knot & 1]) for paid, mark in best]


class SmallTrees(Asking):
    def test_by_hand(self):
        told = [
            ([-1], 0, 0, [], 0, []), ([-1], 1, 0, [0], 0, [0]), ([-1, 0], 1, 1, [0], 1, [0]),
            ([-1, 0, 0], 1, 1, [1], 1, [1]), ([-1, 0, 0], 2, 1, [0, 1], 1, [0, 1]),
            ([-1, 0, 0, 0], 2, 1, [1, 2], 2, [0, 1]), ([-1, 0, 0, 0], 3, 1, [0, 1, 2], 1, [0, 1, 2]),
            ([-1, 0, 1, 0], 2, 1, [0, 3], 1, [0, 3]), ([-1, 0, 1, 2, 3], 2, 1, [0, 1], 1, [0, 1]),
        ]
        for parents, many, by_rim, of_rim, by_ties, of_ties in told:
            with self.subTest(parents=parents, many=many):
                self.assertEqual((tree_fewest(parents, many, "rim"), tree_set(parents, many, "rim")), (by_rim, of_rim))
                self.assertEqual((tree_fewest(parents, many, "ties"), tree_set(parents, many, "ties")),
                                 (by_ties, of_ties))

    def test_all_trees_of_up_to_six_knots(self):
        for size in range(1, 7):
            for parents in all_trees(size):
                for kind in KINDS:
                    costs = tree_costs(parents, kind)
                    for places in all_lists(size):
                        self.assertEqual(tree_cost(parents, places, kind), costs[tuple(places)], (parents, places))
                    for many in range(size + 1):
                        low, rows = least_of(costs, many)
                        self.is_number(tree_fewest(parents, many, kind))
                        self.assertEqual(tree_fewest(parents, many, kind), low, (parents, many, kind))
                        self.are_numbers(tree_set(parents, many, kind))
                        self.assertEqual(tree_set(parents, many, kind), rows[0], (parents, many, kind))

    def test_all_trees_of_seven_knots_and_some_of_twelve(self):
        for parents in all_trees(7) + great_trees(12):
            for kind in KINDS:
                for many, (low, first) in enumerate(lows_by_marks(parents, kind)):
                    self.assertEqual(tree_fewest(parents, many, kind), low, (parents, many, kind))
                    self.assertEqual(tree_set(parents, many, kind), first, (parents, many, kind))

    def test_two_rim_knots_side_by_side(self):
        # Knots 0 and 3 are tied, and both are the rim of the first list of six.
        parents = [-1, 0, 0, 0, 0, 3, 2, 4, 2, 4, 1, 0, 1, 2, 4, 3, 3, 1]
        near = [{end for tie in tree_web(parents)[1] if knot in tie for end in tie} for knot in range(18)]
        rims = [(len(set().union(*[near[knot] for knot in chosen]) - set(chosen)), list(chosen))
                for chosen in combinations(range(18), 6)]
        self.assertEqual(min(rims), (2, [1, 5, 10, 11, 12, 17]))
        self.assertEqual((tree_fewest(parents, 6, "rim"), tree_set(parents, 6, "rim")), min(rims))


class GreatTrees(Asking):
    def test_the_told_list_costs_the_told(self):
        for size in (20, 40):
            for parents in great_trees(size):
                before = deep(parents)
                web = tree_web(parents)
                for kind in KINDS:
                    for many in range(size + 1):
                        places = tree_set(parents, many, kind)
                        self.are_numbers(places)
                        self.assertEqual(len(places), many)
                        self.assertEqual(places, sorted(set(places)))
                        low = tree_fewest(parents, many, kind)
                        self.is_number(low)
                        self.assertEqual(told_cost(web, places, kind), low)
                        self.assertEqual(tree_cost(parents, places, kind), low)
                self.assertEqual(deep(parents), before)

    def test_rows(self):
        for size in (2, 3, 17, 40):
            for kind in KINDS:
                self.assertEqual(tree_fewest(row_tree(size), 0, kind), 0)
                self.assertEqual(tree_fewest(row_tree(size), size, kind), 0)
                for many in range(1, size):
                    self.assertEqual(tree_fewest(row_tree(size), many, kind), 1)
                    self.assertEqual(tree_set(row_tree(size), many, kind), list(range(many)))

    def test_stars(self):
        for size in (3, 17, 40):
            parents = star_tree(size)
            for many in range(1, size):
                self.assertEqual(tree_fewest(parents, many, "rim"), 1)
                first = list(range(1, many + 1)) if many < size - 1 else list(range(many))
                self.assertEqual(tree_set(parents, many, "rim"), first)
                self.assertEqual(tree_fewest(parents, many, "ties"), min(many, size - many))
                # With the middle knot as many ties lead out as leaves are left outside.
                middle = size - many <= many
                self.assertEqual(tree_set(parents, many, "ties"), list(range(many)) if middle
                                 else list(range(1, many + 1)))

    def test_the_first_of_bent_rows(self):
        # Two rows that start at knot 0, the odd knots in one and the even ones in the other.
        parents = [-1, 0, 0] + [knot - 2 for knot in range(3, 40)]
        for kind in KINDS:
            self.assertEqual(tree_fewest(parents, 20, kind), 1)
            self.assertEqual(tree_set(parents, 20, kind), [0, *range(2, 39, 2)])
            self.assertEqual(tree_set(parents, 22, kind), sorted([0, 1, 3, *range(2, 39, 2)]))

    def test_no_list_costs_fewer_than_told(self):
        for seed in range(8):
            parents = mixed_tree(40, seed, 6)
            web = tree_web(parents)
            for kind in KINDS:
                lows = [tree_fewest(parents, many, kind) for many in range(41)]
                for start in range(40):
                    for step in (1, 2, 3):
                        places = list(range(start, 40, step))
                        self.assertLessEqual(lows[len(places)], told_cost(web, places, kind))
                # What hangs below one knot has one tie out and one place as its rim.
                for top in range(1, 40):
                    below = [top]
                    for knot in range(top + 1, 40):
                        if parents[knot] in below:
                            below.append(knot)
                    self.assertLessEqual(lows[len(below)], 1)

    def test_costs_of_great_trees(self):
        for size in (11, 40):
            for parents in great_trees(size):
                web = tree_web(parents)
                every = list(range(size))
                for places in ([], [0], [size - 1], every, every[::2], every[1::3]):
                    for kind in KINDS:
                        self.is_number(tree_cost(parents, places, kind))
                        self.assertEqual(tree_cost(parents, places, kind), told_cost(web, places, kind))

    def test_a_told_list_is_new_each_time(self):
        for kind in KINDS:
            for many in (0, 1, 4):
                wanted = list(tree_set([-1, 0, 0, 1], many, kind))
                tree_set([-1, 0, 0, 1], many, kind).append(9)
                self.assertEqual(tree_set([-1, 0, 0, 1], many, kind), wanted)
