"""The classes of refusals, as the interface lists them."""

import unittest

from leastrim import errors

NAMES = ["BadWeb", "BadPlaces", "BadKind", "BadCount", "BadNumber", "BadWays", "BadWay", "BadCells", "BadTree"]


class Errors(unittest.TestCase):
    def test_the_first_is_a_value_error(self):
        self.assertEqual(errors.RimError.__bases__, (ValueError,))

    def test_the_nine_stand_straight_under_it(self):
        for name in NAMES:
            with self.subTest(name=name):
                self.assertEqual(getattr(errors, name).__bases__, (errors.RimError,))

    def test_the_nine_are_nine(self):
        self.assertEqual(len({getattr(errors, name) for name in NAMES}), 9)
