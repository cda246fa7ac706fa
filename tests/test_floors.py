"""Point 8: what cells of the floor cost at the fewest, such cells, and what cells cost."""

from itertools import combinations
from math import isqrt

from leastrim.floors import floor_cost, floor_fewest, floor_set
from tests.helpers import GREAT, KINDS, Asking, deep


def beside(one, other):
    """Whether two cells are tied, by the words of the document."""
    (across, up), (far, high) = one, other
    return (across == far and abs(up - high) == 1) or (up == high and abs(across - far) == 1)


def told_floor_cost(cells, kind):
    """What cells cost: each cell has four ties, and each cell near them is looked at."""
    if kind == "ties":
        return 4 * len(cells) - 2 * sum(beside(one, other) for one, other in combinations(cells, 2))
    near = {(across + left, up + down) for across, up in cells for left in (-1, 0, 1) for down in (-1, 0, 1)}
    return sum(any(beside(cell, chosen) for chosen in cells) for cell in near - set(cells))


def lows_in_box(side, most, kind):
    """What each count costs at the fewest in a box, all lists gone through."""
    box = [(across, up) for across in range(side) for up in range(side)]
    near = {cell: {(cell[0] + 1, cell[1]), (cell[0] - 1, cell[1]), (cell[0], cell[1] + 1), (cell[0], cell[1] - 1)}
            for cell in box}
    lows = []
    for many in range(most + 1):
        low = 4 * many
        for cells in combinations(box, many):
            chosen = set(cells)
            if kind == "ties":
                paid = sum(len(near[cell] - chosen) for cell in cells)
            else:
                paid = len(set().union(*[near[cell] for cell in cells]) - chosen)
            low = min(low, paid)
        lows.append(low)
    return lows


def some_cells(seed, many, side):
    """Cells strewn over a box, always the same for the same seed, in order and each once."""
    cells = set()
    state = seed
    while len(cells) < many:
        state = (state * 6364136223846793005 + 1442695040888963407) % 2 ** 64
        cells.add(((state >> 20) % side - side // 2, (state >> 40) % side - side // 2))
    return sorted(cells)


class Fewest(Asking):
    def test_by_hand(self):
        self.assertEqual([floor_fewest(many, "ties") for many in range(10)], [0, 4, 6, 8, 8, 10, 10, 12, 12, 12])
        self.assertEqual([floor_fewest(many, "rim") for many in range(14)],
                         [0, 4, 6, 7, 8, 8, 9, 10, 10, 11, 11, 12, 12, 12])

    def test_against_all_lists_in_a_box(self):
        for kind in KINDS:
            self.assertEqual([floor_fewest(many, kind) for many in range(9)], lows_in_box(4, 8, kind))
            self.assertEqual([floor_fewest(many, kind) for many in range(6)], lows_in_box(5, 5, kind))

    def told_by_words(self, many):
        by_ties = floor_fewest(many, "ties")
        by_rim = floor_fewest(many, "rim")
        self.is_number(by_ties)
        self.is_number(by_rim)
        if many == 0:
            self.assertEqual((by_ties, by_rim), (0, 0))
            return
        self.assertEqual(by_ties % 2, 0)
        half = by_ties // 2
        self.assertTrue((half - 1) ** 2 < 4 * many <= half ** 2)
        root = by_rim - 2
        self.assertTrue((root - 1) ** 2 < 8 * many - 4 <= root ** 2)

    def test_each_count_by_the_words(self):
        for many in range(5000):
            self.told_by_words(many)

    def test_great_and_very_great_counts_by_the_words(self):
        for figures in (3, 17, 30, 100, 399, 1001, 2500, 6000):
            for great in (10 ** figures, 7 * 10 ** figures + 123456789, 10 ** (2 * (figures // 2)), 3 ** (2 * figures)):
                for many in (great - 1, great, great + 1):
                    self.told_by_words(many)
        for power in range(200):
            for many in range(max(0, 2 ** power - 2), 2 ** power + 3):
                self.told_by_words(many)

    def test_squares_and_blocks_beside_them(self):
        for side in (1, 2, 3, 99, 10 ** 9, 10 ** 600 + 7):
            for many in (side * side - 1, side * side, side * side + 1, side * (side + 1), side * (side + 1) + 1):
                self.told_by_words(many)
            self.assertEqual(floor_fewest(side * side, "ties"), 4 * side)
            self.assertEqual(floor_fewest(side * side + 1, "ties"), 4 * side + 2)
            self.assertEqual(floor_fewest(side * (side + 1), "ties"), 4 * side + 2)
            self.assertEqual(floor_fewest(side * (side + 1) + 1, "ties"), 4 * side + 4)

    def test_diamonds_and_beside_them(self):
        for steps in (1, 2, 3, 99, 10 ** 9, 10 ** 600 + 7):
            many = 2 * steps * steps + 2 * steps + 1
            self.assertEqual(floor_fewest(many, "rim"), 4 * steps + 4)
            self.assertEqual(floor_fewest(many + 1, "rim"), 4 * steps + 5)

    def test_very_great_counts_at_once(self):
        many = 10 ** 30000 + 1
        self.assertEqual(floor_fewest(many, "ties"), 2 * (isqrt(4 * many - 1) + 1))
        self.assertEqual(floor_fewest(many, "rim"), isqrt(8 * many - 5) + 3)


class Sets(Asking):
    def test_each_count(self):
        for many in range(401):
            for kind in KINDS:
                cells = floor_set(many, kind)
                self.assertIs(type(cells), list)
                for cell in cells:
                    self.assertIs(type(cell), tuple)
                    self.assertEqual([type(number) for number in cell], [int, int])
                self.assertEqual(len(cells), many)
                self.assertEqual(cells, sorted(set(cells)))
                self.assertEqual(floor_cost(cells, kind), floor_fewest(many, kind), (many, kind))

    def test_some_counts_by_a_second_reckoning(self):
        for many in (*range(30), 60, 61, 85, 100):
            for kind in KINDS:
                self.assertEqual(told_floor_cost(floor_set(many, kind), kind), floor_fewest(many, kind), (many, kind))

    def test_a_told_list_is_new_each_time(self):
        for kind in KINDS:
            for many in (0, 1, 7):
                wanted = list(floor_set(many, kind))
                floor_set(many, kind).append(9)
                self.assertEqual(floor_set(many, kind), wanted)


class Costs(Asking):
    def test_by_hand(self):
        told = [
            ([], 0, 0), ([(0, 0)], 4, 4), ([(0, 0), (0, 1)], 6, 6), ([(0, 0), (1, 1)], 6, 8), ([(0, 0), (0, 2)], 7, 8),
            ([(0, 0), (5, 5)], 8, 8), ([(0, 0), (0, 1), (1, 0)], 7, 8), ([(0, 0), (0, 1), (1, 0), (1, 1)], 8, 8),
            ([(-1, 0), (0, -1), (0, 0), (0, 1), (1, 0)], 8, 12), ([(-1, 0), (0, -1), (0, 1), (1, 0)], 9, 16),
        ]
        for cells, by_rim, by_ties in told:
            with self.subTest(cells=cells):
                self.assertEqual(floor_cost(cells, "rim"), by_rim)
                self.assertEqual(floor_cost(cells, "ties"), by_ties)

    def lists(self):
        for seed in range(12):
            for many in (1, 2, 5, 12, 30):
                yield some_cells(seed, many, 7)

    def test_against_a_second_reckoning(self):
        for cells in self.lists():
            for kind in KINDS:
                self.is_number(floor_cost(cells, kind))
                self.assertEqual(floor_cost(cells, kind), told_floor_cost(cells, kind), (cells, kind))

    def test_moved_and_mirrored_the_same(self):
        for cells in self.lists():
            for kind in KINDS:
                wanted = floor_cost(cells, kind)
                for far, high in ((1, 0), (-3, 8), (GREAT, -GREAT), (-GREAT, 10 ** 2000), (10 ** 5000, 10 ** 5000)):
                    moved = [(across + far, up + high) for across, up in cells]
                    self.assertEqual(floor_cost(moved, kind), wanted)
                for mirrored in ([(-across, up) for across, up in cells], [(across, -up) for across, up in cells],
                                 [(up, across) for across, up in cells], [(-up, -across) for across, up in cells]):
                    self.assertEqual(floor_cost(sorted(mirrored), kind), wanted)

    def test_four_hundred_cells(self):
        for seed in range(3):
            cells = some_cells(seed, 400, 30)
            before = deep(cells)
            for kind in KINDS:
                self.assertGreaterEqual(floor_cost(cells, kind), floor_fewest(400, kind))
            self.assertEqual(deep(cells), before)
        apart = [(3 * at, -GREAT) for at in range(400)]
        for kind in KINDS:
            self.assertEqual(floor_cost(apart, kind), 1600)

    def test_never_fewer_than_the_fewest(self):
        for cells in self.lists():
            for kind in KINDS:
                self.assertGreaterEqual(floor_cost(cells, kind), floor_fewest(len(cells), kind))
