"""Points 1 and 2: the rim of chosen places, and what they cost by either kind."""

import unittest

from leastrim.errors import BadKind, BadPlaces, BadWeb
from leastrim.webs import cost, rim
from tests.helpers import (KINDS, NO_KINDS, NO_PLACES, NO_WEBS, PETERSEN, Asking, all_lists, bare, deep, full,
                           many_webs, ring, row, star, told_cost, told_rim)


class Rims(unittest.TestCase):
    def test_by_hand(self):
        told = [
            (bare(1), [], []), (bare(1), [0], []), (bare(3), [1], []),
            (row(2), [0], [1]), (row(2), [1], [0]), (row(2), [0, 1], []),
            (row(5), [2], [1, 3]), (row(5), [0, 4], [1, 3]), (row(5), [1, 3], [0, 2, 4]),
            (ring(6), [0], [1, 5]), (ring(6), [0, 1, 2], [3, 5]), (ring(6), [0, 2, 4], [1, 3, 5]),
            (star(10), [0], [1, 2, 3, 4, 5, 6, 7, 8, 9]), (star(10), [1, 2, 3], [0]),
            (star(10), [0, 9], [1, 2, 3, 4, 5, 6, 7, 8]),
            (full(4), [2], [0, 1, 3]), (full(4), [0, 1, 2, 3], []), (full(4), [], []),
            (PETERSEN, [0], [1, 4, 5]), (PETERSEN, [0, 1, 2, 3, 4], [5, 6, 7, 8, 9]),
        ]
        for web, places, wanted in told:
            with self.subTest(web=web, places=places):
                self.assertEqual(rim(web, places), wanted)

    def test_all_places_of_many_webs(self):
        for web in many_webs():
            for places in all_lists(web[0]):
                found = rim(web, places)
                self.assertIs(type(found), list)
                self.assertEqual(found, told_rim(web, places), (web, places))

    def test_members_are_numbers(self):
        for place in rim(full(5), [0, 3]):
            self.assertIs(type(place), int)

    def test_a_told_list_is_new_each_time(self):
        for web, places in ((row(4), [1]), (bare(4), []), (bare(4), [0, 1]), (full(3), [0, 1, 2])):
            wanted = told_rim(web, places)
            first = rim(web, places)
            self.assertIsNot(first, places)
            self.assertIsNot(first, web[1])
            first.append(99)
            self.assertEqual(rim(web, places), wanted)


class Costs(unittest.TestCase):
    def test_by_hand(self):
        told = [
            (bare(1), [0], 0, 0), (bare(10), [3, 4], 0, 0), (row(2), [0], 1, 1),
            (row(5), [2], 2, 2), (row(5), [1, 3], 3, 4), (ring(6), [0, 2, 4], 3, 6), (ring(6), [0, 1, 2], 2, 2),
            (star(10), [0], 9, 9), (star(10), [1, 2, 3], 1, 3), (star(10), [0, 1], 8, 8),
            (full(10), [0, 1, 2, 3, 4], 5, 25), (full(10), [], 0, 0), (full(10), list(range(10)), 0, 0),
            (PETERSEN, [0, 1, 2, 3, 4], 5, 5), (PETERSEN, [0, 2], 5, 6),
        ]
        for web, places, by_rim, by_ties in told:
            with self.subTest(web=web, places=places):
                self.assertEqual(cost(web, places, "rim"), by_rim)
                self.assertEqual(cost(web, places, "ties"), by_ties)

    def test_all_places_of_many_webs(self):
        for web in many_webs():
            for places in all_lists(web[0]):
                for kind in KINDS:
                    found = cost(web, places, kind)
                    self.assertIs(type(found), int)
                    self.assertEqual(found, told_cost(web, places, kind), (web, places, kind))

    def test_by_ties_those_outside_cost_the_same(self):
        for web in many_webs(8):
            for places in all_lists(web[0]):
                outside = [place for place in range(web[0]) if place not in places]
                self.assertEqual(cost(web, places, "ties"), cost(web, outside, "ties"))

    def test_a_kind_put_together_is_the_same_text(self):
        self.assertEqual(cost(star(4), [1, 2], "".join(["r", "im"])), 1)
        self.assertEqual(cost(star(4), [1, 2], "".join(["ti", "es"])), 2)


class Refusals(Asking):
    def test_no_web(self):
        for web in NO_WEBS:
            self.refused(BadWeb, rim, web, [])
            self.refused(BadWeb, cost, web, [], "rim")

    def test_a_web_in_itself(self):
        ties = []
        ties.append(ties)
        self.refused(BadWeb, rim, (3, ties), [])

    def test_no_places(self):
        for places in NO_PLACES:
            self.refused(BadPlaces, rim, row(4), places)
            self.refused(BadPlaces, cost, row(4), places, "ties")

    def test_places_beyond_each_size(self):
        for size in range(1, 11):
            self.assertEqual(rim(bare(size), [size - 1]), [])
            self.refused(BadPlaces, rim, bare(size), [size])
            self.refused(BadPlaces, cost, bare(size), [size], "rim")

    def test_no_kind(self):
        for kind in NO_KINDS:
            self.refused(BadKind, cost, row(4), [1, 2], kind)
            self.refused(BadKind, cost, bare(1), [], kind)

    def test_the_web_goes_ahead_of_the_places(self):
        for web in NO_WEBS:
            self.refused(BadWeb, rim, web, None)
            self.refused(BadWeb, cost, web, [1, 0], "rim")
        for places in NO_PLACES:
            self.refused(BadWeb, rim, (11, []), places)
            self.refused(BadWeb, cost, (4, [(1, 0)]), places, "rim")

    def test_the_web_goes_ahead_of_the_kind(self):
        for web in NO_WEBS:
            self.refused(BadWeb, cost, web, [], "rims")
            self.refused(BadWeb, cost, web, [1, 0], None)
        for kind in NO_KINDS:
            self.refused(BadWeb, cost, (0, []), [], kind)

    def test_the_places_go_ahead_of_the_kind(self):
        for places in NO_PLACES:
            self.refused(BadPlaces, cost, row(4), places, "rims")
        for kind in NO_KINDS:
            self.refused(BadPlaces, cost, row(4), [4], kind)


class HandedIn(unittest.TestCase):
    def test_it_stays_as_it_was(self):
        for web in many_webs(6):
            for places in all_lists(web[0]):
                before = deep((web, places))
                rim(web, places)
                for kind in KINDS:
                    cost(web, places, kind)
                self.assertEqual(deep((web, places)), before)

    def test_nothing_of_it_is_kept(self):
        web, places = row(4), [1]
        self.assertEqual((rim(web, places), cost(web, places, "ties")), ([0, 2], 2))
        web[1].pop()
        places.append(2)
        self.assertEqual((rim(web, places), cost(web, places, "ties")), ([0], 1))
