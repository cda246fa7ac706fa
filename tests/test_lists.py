"""The steps over lists that the other modules share."""

import unittest

from leastrim.lists import choices, is_choice, is_number
from tests.helpers import NO_NUMBERS, NO_PLACES, all_lists, lists_of


class Numbers(unittest.TestCase):
    def test_whole_numbers_of_any_sign_and_size(self):
        for number in (0, 1, -1, 10 ** 400, -10 ** 400):
            self.assertIs(is_number(number), True)

    def test_nothing_else(self):
        for thing in NO_NUMBERS:
            with self.subTest(thing=thing):
                self.assertIs(is_number(thing), False)


class Choices(unittest.TestCase):
    def test_every_rising_list_is_one(self):
        for chosen in all_lists(4):
            self.assertIs(is_choice(chosen, 4), True)

    def test_nothing_else_is_one(self):
        for thing in NO_PLACES:
            with self.subTest(thing=thing):
                self.assertIs(is_choice(thing, 4), False)

    def test_all_are_told_in_the_order_of_lists(self):
        for size in range(11):
            for many in range(size + 1):
                self.assertEqual(choices(size, many), lists_of(size, many))

    def test_more_than_there_are_cannot_be_chosen(self):
        self.assertEqual(choices(3, 4), [])
        self.assertEqual(choices(0, 1), [])

    def test_each_told_list_is_a_new_one(self):
        choices(3, 0)[0].append(7)
        choices(3, 2)[0].append(7)
        self.assertEqual(choices(3, 0), [[]])
        self.assertEqual(choices(3, 2), [[0, 1], [0, 2], [1, 2]])
