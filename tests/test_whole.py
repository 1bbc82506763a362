"""Whole numbers and fractions [2]."""

import math
import unittest

from helper import GREAT
from rigeyes.whole import common_divisor, is_whole, less, lowest


class Whole(unittest.TestCase):
    def test_ints_are_whole_numbers(self):
        for thing in (0, 1, -1, 200, GREAT, -GREAT):
            self.assertIs(is_whole(thing), True, thing)

    def test_truths_and_other_things_are_none(self):
        for thing in (True, False, None, "", "1", (), (1,), [], [1]):
            self.assertIs(is_whole(thing), False, thing)


class Divisor(unittest.TestCase):
    def test_small_numbers_of_either_sign(self):
        for one in range(-30, 31):
            for other in range(-30, 31):
                self.assertEqual(common_divisor(one, other), math.gcd(one, other), (one, other))

    def test_great_numbers(self):
        self.assertEqual(common_divisor(-6 * GREAT, 15 * GREAT), 3 * GREAT)
        self.assertEqual(common_divisor(GREAT, GREAT - 1), 1)


class Fractions(unittest.TestCase):
    def test_lowest_terms_with_a_bottom_above_nought(self):
        self.assertEqual(lowest(6, 4), (3, 2))
        self.assertEqual(lowest(-6, 4), (-3, 2))
        self.assertEqual(lowest(6, -4), (-3, 2))
        self.assertEqual(lowest(-6, -4), (3, 2))
        self.assertEqual(lowest(-8, 4), (-2, 1))
        self.assertEqual(lowest(5 * GREAT, -10 * GREAT), (-1, 2))

    def test_nought_is_nought_over_one(self):
        for bottom in (1, 7, -1, -7, GREAT, -GREAT):
            self.assertEqual(lowest(0, bottom), (0, 1))

    def test_less_keeps_the_bottom_above_nought(self):
        self.assertEqual(lowest(*less((1, 2), (1, 3))), (1, 6))
        self.assertEqual(lowest(*less((1, 3), (1, 2))), (-1, 6))
        self.assertEqual(lowest(*less((-1, 2), (-1, 2))), (0, 1))
        self.assertGreater(less((1, 3), (1, 2))[1], 0)


if __name__ == "__main__":
    unittest.main()
