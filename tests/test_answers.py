"""Points 1 and 4: what the answers show of chosen places."""

import unittest

from leastrim.answers import Answer, Beaten, Least
from tests.helpers import APART, CUBE, KINDS, PETERSEN, all_lists, costs_of, deep, lists_of, many_webs, ring, row, star


def is_least(costs, places):
    return all(costs[tuple(places)] <= costs[other] for other in costs if len(other) == len(places))


class Classes(unittest.TestCase):
    def test_both_stand_straight_under_answer(self):
        self.assertEqual(Least.__bases__, (Answer,))
        self.assertEqual(Beaten.__bases__, (Answer,))

    def test_each_has_the_word_itself(self):
        self.assertIn("shows", vars(Least))
        self.assertIn("shows", vars(Beaten))

    def test_an_answer_is_of_one_class_only(self):
        self.assertNotIsInstance(Least(), Beaten)
        self.assertNotIsInstance(Beaten([]), Least)

    def test_the_names_of_what_is_handed_in(self):
        self.assertIs(Least().shows(web=row(3), chosen=[0], kind="rim"), True)
        self.assertIs(Beaten(places=[0]).shows(web=row(3), chosen=[1], kind="rim"), True)


class LeastShows(unittest.TestCase):
    def test_by_hand(self):
        told = [
            (row(1), [], True, True), (row(1), [0], True, True), (row(5), [0], True, True), (row(5), [2], False, False),
            (row(5), [0, 1], True, True), (row(5), [1, 2], False, False), (row(5), [0, 4], False, False),
            (star(6), [1, 2], True, True), (star(6), [0, 1], False, False), (star(6), [0], False, False),
            (star(6), [1, 2, 3, 4], True, False), (star(6), [0, 1, 2, 3], False, True),
            (APART, [0, 1, 2], True, True), (APART, [3, 4, 5], False, False),
            (ring(4), [0, 2], True, False), (ring(4), [0, 1], True, True),
        ]
        for web, chosen, by_rim, by_ties in told:
            with self.subTest(web=web, chosen=chosen):
                self.assertIs(Least().shows(web, chosen, "rim"), by_rim)
                self.assertIs(Least().shows(web, chosen, "ties"), by_ties)

    def test_all_places_of_many_webs(self):
        for web in many_webs(7):
            for kind in KINDS:
                costs = costs_of(web, kind)
                for chosen in all_lists(web[0]):
                    found = Least().shows(web, chosen, kind)
                    self.assertIs(found, is_least(costs, chosen), (web, chosen, kind))

    def test_some_places_of_great_webs(self):
        for web in (PETERSEN, CUBE, ring(10), star(10)):
            for kind in KINDS:
                costs = costs_of(web, kind)
                for chosen in all_lists(web[0])[::23]:
                    found = Least().shows(web, chosen, kind)
                    self.assertIs(found, is_least(costs, chosen), (web, chosen, kind))


class BeatenShows(unittest.TestCase):
    def test_all_pairs_of_small_webs(self):
        for web in many_webs(5):
            for kind in KINDS:
                costs = costs_of(web, kind)
                for chosen in all_lists(web[0]):
                    for places in all_lists(web[0]):
                        fewer = costs[tuple(places)] < costs[tuple(chosen)]
                        wanted = len(places) == len(chosen) and fewer
                        found = Beaten(places).shows(web, chosen, kind)
                        self.assertIs(found, wanted, (web, chosen, places, kind))

    def test_pairs_of_great_webs(self):
        for web in (PETERSEN, CUBE, star(10)):
            for kind in KINDS:
                costs = costs_of(web, kind)
                for many in range(web[0] + 1):
                    rows = lists_of(web[0], many)[::13]
                    for chosen in rows:
                        for places in rows:
                            wanted = costs[tuple(places)] < costs[tuple(chosen)]
                            self.assertIs(Beaten(places).shows(web, chosen, kind), wanted)

    def test_never_both(self):
        for web in many_webs(5):
            for kind in KINDS:
                for chosen in all_lists(web[0]):
                    beaten = [Beaten(places).shows(web, chosen, kind) for places in all_lists(web[0])]
                    self.assertIs(Least().shows(web, chosen, kind), not any(beaten))

    def test_what_are_no_places(self):
        web, chosen = row(6), [1, 3]
        for kind in KINDS:
            self.assertIs(Beaten([0, 1]).shows(web, chosen, kind), True)
            for field in ([1, 0], [5, 4], [0, 0], [5, 5], [0], [5], [0, 1, 2], [0, 1, 1], [0, 0, 1], [], [1, 3],
                          [0, 6], [5, 6], [6, 7], [-1, 0], [-2, -1], [-6, -5], [0, 10 ** 400], [-10 ** 400, 0],
                          [10 ** 400, 10 ** 400 + 1], [4, -1], list(range(6)), list(range(100000)), [0] * 100000,
                          list(range(-50000, 50000)), [-1] * 100000):
                with self.subTest(field=field[:5]):
                    self.assertIs(Beaten(field).shows(web, chosen, kind), False)

    def test_turned_round_and_twice_of_many_webs(self):
        for web in many_webs(5):
            for kind in KINDS:
                for chosen in all_lists(web[0]):
                    for places in lists_of(web[0], len(chosen)):
                        if len(places) > 1:
                            self.assertIs(Beaten(places[::-1]).shows(web, chosen, kind), False)
                        if places:
                            twice = places[:-1] + places[:1]
                            self.assertIs(Beaten(places + places[-1:]).shows(web, chosen, kind), False)
                            if len(places) > 1:
                                self.assertIs(Beaten(twice).shows(web, chosen, kind), False)

    def test_none_and_all_are_never_beaten(self):
        for web in many_webs(6):
            for kind in KINDS:
                for field in ([], list(range(web[0])), [0]):
                    self.assertIs(Beaten(field).shows(web, [], kind), False)
                    self.assertIs(Beaten(field).shows(web, list(range(web[0])), kind), False)

    def test_true_and_false_are_no_places(self):
        self.assertIs(Beaten([0]).shows(row(3), [1], "rim"), True)
        self.assertIs(Beaten([False]).shows(row(3), [1], "rim"), False)
        self.assertIs(Beaten([1]).shows(star(3, 2), [2], "rim"), True)
        self.assertIs(Beaten([True]).shows(star(3, 2), [2], "rim"), False)


class TheField(unittest.TestCase):
    def test_it_is_what_was_handed_in(self):
        for places in ([], [0], [2, 1], [3, 3], [-1, 10 ** 400]):
            answer = Beaten(places)
            self.assertIs(type(answer.places), list)
            self.assertEqual(answer.places, places)
            self.assertIsNot(answer.places, places)

    def test_it_is_a_copy(self):
        places = [0]
        answer = Beaten(places)
        places[0] = 1
        places.append(2)
        self.assertEqual(answer.places, [0])
        self.assertIs(answer.shows(row(3), [1], "rim"), True)

    def test_a_change_of_it_leaves_what_was_handed_in(self):
        places = [0]
        Beaten(places).places.append(1)
        self.assertEqual(places, [0])

    def test_two_answers_share_nothing(self):
        places = [0]
        first, second = Beaten(places), Beaten(places)
        first.places.clear()
        self.assertEqual(second.places, [0])

    def test_a_change_of_it_counts(self):
        answer = Beaten([1])
        self.assertIs(answer.shows(row(3), [1], "rim"), False)
        answer.places[0] = 0
        self.assertIs(answer.shows(row(3), [1], "rim"), True)
        answer.places.append(1)
        self.assertIs(answer.shows(row(3), [1], "rim"), False)
        answer.places = [2]
        self.assertIs(answer.shows(row(3), [1], "rim"), True)

    def test_the_question_changes_nothing(self):
        for web in many_webs(4):
            for chosen in all_lists(web[0]):
                for kind in KINDS:
                    for field in (chosen, [0], [3, -1], []):
                        answer = Beaten(field)
                        before = deep((web, chosen, field))
                        answer.shows(web, chosen, kind)
                        Least().shows(web, chosen, kind)
                        self.assertEqual(deep((web, chosen, field)), before)
                        self.assertEqual(answer.places, field)

    def test_nothing_of_a_question_is_kept(self):
        web, chosen = star(4), [0]
        least, beaten = Least(), Beaten([1])
        self.assertIs(least.shows(web, chosen, "rim"), False)
        self.assertIs(beaten.shows(web, chosen, "rim"), True)
        chosen[0] = 2
        self.assertIs(least.shows(web, chosen, "rim"), True)
        self.assertIs(beaten.shows(web, chosen, "rim"), False)
        web[1].remove((0, 1))
        self.assertIs(least.shows(web, chosen, "rim"), False)
        self.assertIs(beaten.shows(web, chosen, "rim"), True)
