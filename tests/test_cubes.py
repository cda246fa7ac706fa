"""Points 6 and 7: what places of a cube cost at the fewest, such places, and places pushed to one side."""

from functools import cmp_to_key
from itertools import combinations
from math import comb

from leastrim.cubes import cube_cost, cube_fewest, cube_set, pushed, pushed_down
from tests.helpers import KINDS, Asking, all_lists, costs_of, cube_web, deep, least_of, told_cost


def ones(place):
    return bin(place).count("1")


def ahead(one, other):
    """Which of two places is ahead by rim, by the words of the document: below 0 the first."""
    if ones(one) != ones(other):
        return ones(one) - ones(other)
    way = 0
    while one >> way != other >> way:
        if one >> way & 1 != other >> way & 1:
            return -1 if one >> way & 1 else 1
        way += 1
    return 0


def by_ones(ways):
    return sorted(range(2 ** ways), key=cmp_to_key(ahead))


def first_few_by_ones(ways, many):
    """The first so many places of a cube that is too great to be gone through."""
    places = []
    for level in range(ways + 1):
        for chosen in combinations(range(ways), level):
            if len(places) == many:
                return places
            places.append(sum(2 ** way for way in chosen))
    return places


def around(ways, place):
    return [place ^ 2 ** way for way in range(ways)]


def rims_on_the_way(ways, order):
    """What each beginning of an order costs by rim: all that is reached, less what is chosen."""
    reached = set()
    rims = [0]
    for many, place in enumerate(order, 1):
        reached.add(place)
        reached.update(around(ways, place))
        rims.append(len(reached) - many)
    return rims


def shadow(many, level):
    """How many lists of one fewer lie in the first so many lists of a level: the cascade of Kruskal and Katona."""
    total = 0
    while many > 0:
        size = level
        while comb(size + 1, level) <= many:
            size += 1
        many -= comb(size, level)
        total += comb(size, level - 1)
        level -= 1
    return total


def rim_by_cascade(ways, many):
    """The fewest by rim, from the figures that are 0 instead of those that are 1."""
    if many in (0, 2 ** ways):
        return 0
    level = 0
    left = many
    while left > comb(ways, level):
        left -= comb(ways, level)
        level += 1
    return comb(ways, level) - left + shadow(left, ways - level)


def some_places(ways, seed, many):
    """Lists of places of some cube, always the same for the same seed."""
    rows = []
    state = seed
    for at in range(many):
        row = []
        for place in range(2 ** ways):
            state = (state * 1103515245 + 12345) & 0x7FFFFFFF
            if (state >> 16) % (at + 2) == 0:
                row.append(place)
        rows.append(row)
    return rows


class SmallCubes(Asking):
    def test_by_hand(self):
        told = [
            (1, 0, 0, 0), (1, 1, 1, 1), (1, 2, 0, 0), (2, 1, 2, 2), (2, 2, 2, 2), (2, 3, 1, 2),
            (3, 1, 3, 3), (3, 2, 4, 4), (3, 3, 4, 5), (3, 4, 3, 4), (3, 5, 3, 5), (3, 6, 2, 4), (3, 7, 1, 3),
            (3, 8, 0, 0),
        ]
        for ways, many, by_rim, by_ties in told:
            with self.subTest(ways=ways, many=many):
                self.assertEqual(cube_fewest(ways, many, "rim"), by_rim)
                self.assertEqual(cube_fewest(ways, many, "ties"), by_ties)

    def test_each_count_against_all_lists(self):
        for ways in (1, 2, 3):
            for kind in KINDS:
                costs = costs_of(cube_web(ways), kind)
                for many in range(2 ** ways + 1):
                    low, rows = least_of(costs, many)
                    self.assertEqual(cube_fewest(ways, many, kind), low, (ways, many, kind))
                    self.assertIn(cube_set(ways, many, kind), rows)

    def test_four_ways_against_all_lists(self):
        lows = {kind: [99] * 17 for kind in KINDS}
        near = [sum(1 << end for end in around(4, place)) for place in range(16)]
        for chosen in range(1 << 16):
            places = [place for place in range(16) if chosen >> place & 1]
            outside = [near[place] & ~chosen for place in places]
            reached = 0
            for ends in outside:
                reached |= ends
            paid = {"rim": reached.bit_count(), "ties": sum(ends.bit_count() for ends in outside)}
            for kind in KINDS:
                lows[kind][len(places)] = min(lows[kind][len(places)], paid[kind])
        for kind in KINDS:
            self.assertEqual([cube_fewest(4, many, kind) for many in range(17)], lows[kind])


class Sets(Asking):
    def test_each_count_of_one_to_ten_ways(self):
        for ways in range(1, 11):
            order = by_ones(ways)
            for kind in KINDS:
                for many in range(2 ** ways + 1):
                    places = cube_set(ways, many, kind)
                    self.are_numbers(places)
                    self.assertEqual(len(places), many)
                    first = range(many) if kind == "ties" else order[:many]
                    self.assertEqual(places, sorted(first))
                    self.assertEqual(cube_cost(ways, places, kind), cube_fewest(ways, many, kind), (ways, many, kind))

    def test_a_told_list_is_new_each_time(self):
        for kind in KINDS:
            for many in (0, 1, 5, 8):
                wanted = list(cube_set(3, many, kind))
                cube_set(3, many, kind).append(9)
                self.assertEqual(cube_set(3, many, kind), wanted)


class GreatCubes(Asking):
    def test_each_count_of_up_to_twelve_ways(self):
        for ways in range(1, 13):
            rims = rims_on_the_way(ways, by_ones(ways))
            out = 0
            for many in range(2 ** ways + 1):
                self.assertEqual(cube_fewest(ways, many, "rim"), rims[many])
                self.assertEqual(cube_fewest(ways, many, "ties"), out)
                # One more number: as many ties as it has figures that are 1 lead inward now.
                out += ways - 2 * ones(many)

    def test_few_places_of_each_cube(self):
        for ways in range(12, 41):
            rims = rims_on_the_way(ways, first_few_by_ones(ways, 1500))
            out = 0
            for many in range(1501):
                self.assertEqual(cube_fewest(ways, many, "rim"), rims[many], (ways, many))
                self.assertEqual(cube_fewest(ways, many, "ties"), out, (ways, many))
                out += ways - 2 * ones(many)

    def test_all_but_few_places_of_each_cube(self):
        for ways in range(12, 41):
            everything = 2 ** ways
            # The last places are the first ones turned over: 1 for 0, and the last way for the first.
            outside = [everything - 1 - sum(2 ** (ways - 1 - way) for way in range(ways) if place >> way & 1)
                       for place in first_few_by_ones(ways, 300)]
            for many in (0, 1, 2, 3, ways - 1, ways, ways + 1, ways + 2, 2 * ways, 299, 300):
                left_out = set(outside[:many])
                reached = sum(any(end not in left_out for end in around(ways, place)) for place in left_out)
                self.assertEqual(cube_fewest(ways, everything - many, "rim"), reached, (ways, many))
                out = ways * many - 2 * sum(map(ones, range(many)))
                self.assertEqual(cube_fewest(ways, everything - many, "ties"), out, (ways, many))

    def test_whole_layers_and_beside_them(self):
        for ways in range(2, 41):
            whole = 0
            for level in range(ways):
                whole += comb(ways, level)
                above = comb(ways, level + 1)
                self.assertEqual(cube_fewest(ways, whole, "rim"), above)
                self.assertEqual(cube_fewest(ways, whole + 1, "rim"), above - 1 + ways - level - 1)
                self.assertEqual(cube_fewest(ways, whole - 1, "rim"), above + 1 if level > 0 else 0)
            self.assertEqual(cube_fewest(ways, 2 ** ways, "rim"), 0)
            self.assertEqual(cube_fewest(ways, 2 ** ways - 1, "rim"), 1)

    def test_halves(self):
        for ways in range(1, 41):
            half = 2 ** (ways - 1)
            self.assertEqual(cube_fewest(ways, half, "ties"), half)
            if ways % 2:
                self.assertEqual(cube_fewest(ways, half, "rim"), comb(ways, (ways + 1) // 2))
            else:
                # The middle level is cut just between the places with a 1 at way 0 and those without.
                wanted = comb(ways, ways // 2) // 2 + comb(ways - 1, ways // 2)
                self.assertEqual(cube_fewest(ways, half, "rim"), wanted)

    def test_smaller_cubes_in_greater_ones(self):
        for ways in range(1, 41):
            for inner in range(ways + 1):
                self.assertEqual(cube_fewest(ways, 2 ** inner, "ties"), 2 ** inner * (ways - inner))

    def test_many_counts_of_each_cube(self):
        state = 5
        for ways in range(1, 41):
            for step in range(200):
                state = (state * 6364136223846793005 + 1442695040888963407) % 2 ** 64
                many = (state >> 8) % (2 ** ways + 1)
                self.assertEqual(cube_fewest(ways, many, "rim"), rim_by_cascade(ways, many), (ways, many))
                by_ties = cube_fewest(ways, many, "ties")
                self.assertEqual(by_ties, cube_fewest(ways, 2 ** ways - many, "ties"))
                if ways < 40:
                    self.assertEqual(cube_fewest(ways + 1, many, "ties"), by_ties + many)
                    self.assertEqual(cube_fewest(ways + 1, 2 * many, "ties"), 2 * by_ties)

    def test_what_is_told_are_numbers(self):
        for ways in (1, 7, 40):
            for many in (0, 1, 2, 2 ** ways - 1, 2 ** ways):
                for kind in KINDS:
                    self.is_number(cube_fewest(ways, many, kind))


class Costs(Asking):
    def test_all_places_of_small_cubes(self):
        for ways in (1, 2, 3):
            web = cube_web(ways)
            for places in all_lists(2 ** ways):
                for kind in KINDS:
                    self.is_number(cube_cost(ways, places, kind))
                    self.assertEqual(cube_cost(ways, places, kind), told_cost(web, places, kind), (ways, places))

    def test_some_places_of_greater_cubes(self):
        for ways in range(4, 11):
            ties = cube_web(ways)[1]
            self.assertEqual(len(ties), ways * 2 ** (ways - 1))
            everything = list(range(2 ** ways))
            for places in some_places(ways, ways, 12) + [[], everything, everything[:-1], [0], [2 ** ways - 1]]:
                chosen = set(places)
                out = [low if high in chosen else high for low, high in ties if (low in chosen) != (high in chosen)]
                self.assertEqual(cube_cost(ways, places, "ties"), len(out))
                self.assertEqual(cube_cost(ways, places, "rim"), len(set(out)))


def told_pushed(ways, places, way):
    """Places pushed along a way, by the words of the document."""
    bit = 2 ** way
    return sorted(place - bit if place // bit % 2 == 1 and place - bit not in places else place for place in places)


class Pushed(Asking):
    def lists(self):
        for ways in (1, 2, 3):
            for places in all_lists(2 ** ways):
                yield ways, places
        for ways in range(4, 11):
            everything = list(range(2 ** ways))
            for places in some_places(ways, 7 * ways, 6):
                yield ways, places
            for places in ([], everything, everything[1:], everything[-1:], everything[::2]):
                yield ways, places

    def costs(self, ways, places):
        return [cube_cost(ways, places, kind) for kind in KINDS]

    def no_greater(self, ways, after, before):
        for low, high in zip(self.costs(ways, after), self.costs(ways, before)):
            self.assertLessEqual(low, high, (ways, before))

    def test_by_hand(self):
        self.assertEqual(pushed(2, [3], 0), [2])
        self.assertEqual(pushed(2, [3], 1), [1])
        self.assertEqual(pushed(2, [2, 3], 0), [2, 3])
        self.assertEqual(pushed(2, [2, 3], 1), [0, 1])
        self.assertEqual(pushed(3, [1, 2, 7], 0), [0, 2, 6])
        self.assertEqual(pushed_down(2, [3]), [0])
        self.assertEqual(pushed_down(2, [1, 2]), [0, 2])
        self.assertEqual(pushed_down(3, [1, 2, 4, 7]), [0, 2, 4, 6])
        self.assertEqual(pushed_down(3, [5, 6, 7]), [0, 1, 2])

    def test_along_each_way(self):
        for ways, places in self.lists():
            before = deep(places)
            for way in range(ways):
                found = pushed(ways, places, way)
                self.are_numbers(found)
                self.assertIsNot(found, places)
                self.assertEqual(found, told_pushed(ways, set(places), way), (ways, places, way))
                self.assertEqual(pushed(ways, found, way), found)
                self.no_greater(ways, found, places)
            self.assertEqual(deep(places), before)

    def test_down(self):
        for ways, places in self.lists():
            before = deep(places)
            found = pushed_down(ways, places)
            self.are_numbers(found)
            self.assertIsNot(found, places)
            self.assertEqual(len(found), len(places))
            for way in range(ways):
                self.assertEqual(pushed(ways, found, way), found, (ways, places, way))
            self.no_greater(ways, found, places)
            self.assertEqual(deep(places), before)

    def test_down_is_way_by_way_from_the_first_on(self):
        for ways, places in self.lists():
            now, before = places, None
            while now != before:
                before = now
                for way in range(ways):
                    now = told_pushed(ways, set(now), way)
            self.assertEqual(pushed_down(ways, places), now)

    def test_none_and_all(self):
        for ways in range(1, 11):
            for places in ([], list(range(2 ** ways))):
                self.assertEqual(pushed_down(ways, places), places)
                for way in range(ways):
                    self.assertEqual(pushed(ways, places, way), places)

    def test_a_told_list_is_new_each_time(self):
        for places in ([], [0], [3], [0, 1, 2, 3]):
            before = list(places)
            wanted = pushed(2, places, 1), pushed_down(2, places)
            pushed(2, places, 1).append(9)
            pushed_down(2, places).append(9)
            self.assertEqual(places, before)
            self.assertEqual((pushed(2, places, 1), pushed_down(2, places)), wanted)
