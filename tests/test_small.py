"""Points 3, 4 and 5: least lists counted and numbered, chosen places judged, orders that stay least."""

from itertools import permutations

from leastrim.answers import Beaten, Least
from leastrim.small import by_number, fewest, how_many, judged, nested
from tests.helpers import (APART, CUBE, KINDS, PETERSEN, Asking, all_lists, all_webs, bare, costs_of, full, least_of,
                           many_webs, mixed, ring, row, star)


class LeastLists(Asking):
    def test_by_hand(self):
        told = [
            (bare(1), 0, "rim", 0, [[]]), (bare(1), 1, "ties", 0, [[0]]), (bare(3), 1, "rim", 0, [[0], [1], [2]]),
            (row(4), 1, "rim", 1, [[0], [3]]), (row(4), 2, "ties", 1, [[0, 1], [2, 3]]),
            (row(4), 3, "rim", 1, [[0, 1, 2], [0, 1, 3], [0, 2, 3], [1, 2, 3]]),
            (row(4), 3, "ties", 1, [[0, 1, 2], [1, 2, 3]]),
            (ring(4), 2, "rim", 2, [[0, 1], [0, 2], [0, 3], [1, 2], [1, 3], [2, 3]]),
            (ring(4), 2, "ties", 2, [[0, 1], [0, 3], [1, 2], [2, 3]]),
            (star(5), 3, "rim", 1, [[1, 2, 3], [1, 2, 4], [1, 3, 4], [2, 3, 4]]),
            (star(5), 4, "ties", 1, [[0, 1, 2, 3], [0, 1, 2, 4], [0, 1, 3, 4], [0, 2, 3, 4]]),
            (full(3), 2, "ties", 2, [[0, 1], [0, 2], [1, 2]]),
            (APART, 3, "rim", 0, [[0, 1, 2]]), (APART, 4, "ties", 0, [[3, 4, 5, 6]]),
        ]
        for web, many, kind, low, rows in told:
            with self.subTest(web=web, many=many, kind=kind):
                self.assertEqual(fewest(web, many, kind), low)
                self.assertEqual(how_many(web, many, kind), len(rows))
                self.assertEqual([by_number(web, many, kind, at) for at in range(len(rows))], rows)

    def test_each_count_and_number_of_many_webs(self):
        for web in many_webs() + all_webs(4):
            for kind in KINDS:
                costs = costs_of(web, kind)
                for many in range(web[0] + 1):
                    low, rows = least_of(costs, many)
                    self.is_number(fewest(web, many, kind))
                    self.assertEqual(fewest(web, many, kind), low, (web, many, kind))
                    self.is_number(how_many(web, many, kind))
                    self.assertEqual(how_many(web, many, kind), len(rows), (web, many, kind))
                    found = [by_number(web, many, kind, at) for at in range(len(rows))]
                    self.assertEqual(found, rows, (web, many, kind))
                    self.are_numbers(found[0])
                    self.are_numbers(found[-1])

    def test_none_and_all(self):
        for web in many_webs():
            everything = list(range(web[0]))
            for kind in KINDS:
                for many, places in ((0, []), (web[0], everything)):
                    self.assertEqual(fewest(web, many, kind), 0)
                    self.assertEqual(how_many(web, many, kind), 1)
                    self.assertEqual(by_number(web, many, kind, 0), places)


class Judged(Asking):
    def look(self, web, places, kind, costs, lows):
        answer = judged(web, places, kind)
        low = lows[len(places)]
        paid = costs[tuple(places)]
        self.assertIs(type(answer), Least if paid == low else Beaten, (web, places, kind))
        if paid > low:
            self.are_numbers(answer.places)
            self.assertEqual(len(answer.places), len(places))
            self.assertLess(costs[tuple(answer.places)], paid)
        return answer

    def test_by_hand(self):
        self.assertIs(type(judged(row(5), [0, 1], "rim")), Least)
        self.assertIs(type(judged(row(5), [1, 3], "rim")), Beaten)
        self.assertIs(type(judged(star(6), [1, 2, 3, 4], "rim")), Least)
        self.assertIs(type(judged(star(6), [1, 2, 3, 4], "ties")), Beaten)
        self.assertIs(type(judged(bare(1), [], "ties")), Least)
        self.assertIs(type(judged(bare(1), [0], "ties")), Least)

    def test_all_places_of_many_webs(self):
        for web in many_webs(7) + all_webs(4):
            for kind in KINDS:
                costs = costs_of(web, kind)
                lows = [least_of(costs, many)[0] for many in range(web[0] + 1)]
                for places in all_lists(web[0]):
                    answer = self.look(web, places, kind, costs, lows)
                    self.assertIs(answer.shows(web, places, kind), True, (web, places, kind))

    def test_all_places_of_great_webs(self):
        for web in (PETERSEN, CUBE, ring(10), star(10), full(10), bare(10), mixed(10, 3)):
            for kind in KINDS:
                costs = costs_of(web, kind)
                lows = [least_of(costs, many)[0] for many in range(web[0] + 1)]
                for at, places in enumerate(all_lists(web[0])):
                    answer = self.look(web, places, kind, costs, lows)
                    if at % 7 == 0:
                        self.assertIs(answer.shows(web, places, kind), True, (web, places, kind))

    def test_the_field_is_the_askers_own(self):
        first = judged(star(5), [0], "rim")
        wanted = list(first.places)
        first.places.append(9)
        self.assertEqual(judged(star(5), [0], "rim").places, wanted)


def least_sets(web, kind):
    """All least lists of all counts, as sets."""
    costs = costs_of(web, kind)
    return {frozenset(places) for many in range(web[0] + 1) for places in least_of(costs, many)[1]}


def first_order(web, kind):
    """All orders gone through one by one."""
    least = least_sets(web, kind)
    for order in permutations(range(web[0])):
        if all(frozenset(order[:many]) in least for many in range(web[0] + 1)):
            return list(order)
    return None


def first_order_cut_short(web, kind):
    """All orders gone through, left off where a beginning is not least or its places led nowhere before."""
    least = least_sets(web, kind)
    dead = set()

    def going_on(order):
        if len(order) == web[0]:
            return order
        for place in range(web[0]):
            more = frozenset(order + [place])
            if place not in order and more in least and more not in dead:
                found = going_on(order + [place])
                if found is not None:
                    return found
                dead.add(more)
        return None

    return going_on([])


# Three places and five, all tied among themselves, with no tie between.
PLATES = (8, [(0, 1), (0, 2), (1, 2), (3, 4), (3, 5), (3, 6), (3, 7), (4, 5), (4, 6), (4, 7), (5, 6), (5, 7), (6, 7)])


class Nested(Asking):
    def test_by_hand(self):
        for kind in KINDS:
            self.assertEqual(nested(bare(1), kind), [0])
            self.assertEqual(nested(bare(4), kind), [0, 1, 2, 3])
            self.assertEqual(nested(row(5), kind), [0, 1, 2, 3, 4])
            self.assertEqual(nested(full(10), kind), list(range(10)))
            self.assertEqual(nested(star(3), kind), [1, 0, 2])
        self.assertEqual(nested(star(3, 2), "rim"), [0, 1, 2])
        self.assertEqual(nested(star(3, 2), "ties"), [0, 2, 1])

    def test_three_and_five_apart_have_none(self):
        # Three cost nothing only as the three, five only as the five, and these share no place.
        for kind in KINDS:
            self.assertIsNone(nested(PLATES, kind))
            self.assertIsNone(first_order_cut_short(PLATES, kind))

    def test_all_small_webs_against_all_orders(self):
        found = set()
        for web in [web for size in range(1, 6) for web in all_webs(size)]:
            for kind in KINDS:
                order = nested(web, kind)
                self.assertEqual(order, first_order(web, kind), (web, kind))
                if order is not None:
                    self.are_numbers(order)
                found.add((kind, order is None))
        self.assertEqual(len(found), 4)

    def test_webs_of_six_and_seven_against_all_orders(self):
        for web in [web for web in many_webs(7) if web[0] >= 6] + [mixed(6, seed) for seed in range(40)]:
            for kind in KINDS:
                self.assertEqual(nested(web, kind), first_order(web, kind), (web, kind))

    def test_great_webs(self):
        webs = [web for web in many_webs() if web[0] >= 8]
        webs += [mixed(size, seed) for size in (8, 9, 10) for seed in range(9)]
        for web in webs:
            for kind in KINDS:
                self.assertEqual(nested(web, kind), first_order_cut_short(web, kind), (web, kind))

    def test_the_order_is_the_askers_own(self):
        nested(row(4), "rim").clear()
        self.assertEqual(nested(row(4), "rim"), [0, 1, 2, 3])
