"""The steps over lists that the other modules share."""

import unittest

from leastrim.lists import choices, cost_of_ends, in_twos, is_choice, is_number, is_within
from tests.helpers import NO_NUMBERS, NO_PLACES, all_lists, lists_of, no_numbers_within


class Numbers(unittest.TestCase):
    def test_whole_numbers_of_any_sign_and_size(self):
        for number in (0, 1, -1, 10 ** 400, -10 ** 400):
            self.assertIs(is_number(number), True)

    def test_nothing_else(self):
        for thing in NO_NUMBERS:
            with self.subTest(thing=thing):
                self.assertIs(is_number(thing), False)

    def test_those_within_two_others(self):
        for low, high in ((0, 0), (0, 3), (-1, -1), (1, 40)):
            for number in range(low, high + 1):
                self.assertIs(is_within(number, low, high), True)
            for thing in no_numbers_within(low, high):
                self.assertIs(is_within(thing, low, high), False)

    def test_numbers_written_in_twos(self):
        self.assertEqual(sorted(in_twos(row) for row in all_lists(6)), list(range(64)))
        self.assertEqual([in_twos(row) for row in ([], [0], [1], [0, 2], [39])], [0, 1, 2, 5, 2 ** 39])

    def test_ends_are_paid_each_or_each_once(self):
        self.assertEqual((cost_of_ends([4, 2, 4], "ties"), cost_of_ends([4, 2, 4], "rim")), (3, 2))
        self.assertEqual((cost_of_ends([], "ties"), cost_of_ends([], "rim")), (0, 0))


class Choices(unittest.TestCase):
    def test_every_rising_list_is_one(self):
        for chosen in all_lists(4):
            self.assertIs(is_choice(chosen, 4), True)

    def test_nothing_else_is_one(self):
        for thing in NO_PLACES:
            with self.subTest(thing=thing):
                self.assertIs(is_choice(thing, 4), False)

    def test_all_are_told_in_the_order_of_lists(self):
        for size in range(11):
            for many in range(size + 1):
                self.assertEqual(choices(size, many), lists_of(size, many))

    def test_more_than_there_are_cannot_be_chosen(self):
        self.assertEqual(choices(3, 4), [])
        self.assertEqual(choices(0, 1), [])

    def test_each_told_list_is_a_new_one(self):
        choices(3, 0)[0].append(7)
        choices(3, 2)[0].append(7)
        self.assertEqual(choices(3, 0), [[]])
        self.assertEqual(choices(3, 2), [[0, 1], [0, 2], [1, 2]])
