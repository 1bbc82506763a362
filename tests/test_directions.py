"""What a direction is, and the direction from a point to another one [4] [2]."""

import copy
import math
import unittest
from fractions import Fraction

from helper import GREAT, nested, whole
from rigeyes.rays import direction, is_direction


class IsDirection(unittest.TestCase):
    def test_directions(self):
        for thing in ((1, 0), (-1, 0), (0, 1), (0, -1), (1, 1), (-1, -1), (3, -2), (-199, 200), (7, 199)):
            self.assertIs(is_direction(thing), True, thing)

    def test_every_pair_of_small_numbers(self):
        for dx in range(-12, 13):
            for dy in range(-12, 13):
                self.assertIs(is_direction((dx, dy)), math.gcd(dx, dy) == 1, (dx, dy))

    def test_not_both_nought(self):
        self.assertIs(is_direction((0, 0)), False)

    def test_no_common_divisor(self):
        for thing in ((2, 0), (0, -2), (2, 2), (-3, 6), (15, 35), (200, 200), (-200, 0), (187, 143)):
            self.assertIs(is_direction(thing), False, thing)

    def test_the_rim(self):
        for far in (-200, 200):
            self.assertIs(is_direction((far, 1)), True)
            self.assertIs(is_direction((1, far)), True)
            self.assertIs(is_direction((far, 199)), True)
        for far in (-201, 201, -GREAT, GREAT):
            self.assertIs(is_direction((far, 1)), False)
            self.assertIs(is_direction((1, far)), False)
            self.assertIs(is_direction((far, far - 1)), False)

    def test_truths_are_no_whole_numbers(self):
        for thing in ((True, 0), (0, True), (True, True), (True, False), (1, False), (False, 1), (2, True), (True, 2)):
            self.assertIs(is_direction(thing), False, thing)

    def test_other_lengths(self):
        for thing in ((), (1,), (1, 0, 0), (1, 2, 3), (1, 0) * 15, ((1, 0),), ((1, 0), (0, 1))):
            self.assertIs(is_direction(thing), False, thing)

    def test_other_things(self):
        for thing in (None, True, False, 0, 1, -1, GREAT, "", "10", "ab", "(1, 0)", [], [1, 0], [[1, 0]], [(1, 0)]):
            self.assertIs(is_direction(thing), False, thing)

    def test_pairs_of_other_things(self):
        parts = (None, "", "1", "a", (), (1,), [], [1], (1, 2), True)
        for part in parts:
            self.assertIs(is_direction((part, 1)), False, part)
            self.assertIs(is_direction((1, part)), False, part)
            self.assertIs(is_direction((0, part)), False, part)
            self.assertIs(is_direction((part, part)), False, part)

    def test_things_within_one_another(self):
        for kind in (list, tuple):
            for inmost in (1, "a", True, None, (1, 0), [1, 0]):
                for depth in (1, 2, 29, 30):
                    thing = nested(inmost, kind, depth)
                    self.assertIs(is_direction(thing), False, (kind, inmost, depth))
                    self.assertIs(is_direction((thing, 1)), False)
                    self.assertIs(is_direction((1, thing)), False)
                    self.assertIs(is_direction((thing, thing)), False)

    def test_nothing_is_changed_and_it_is_answered_the_same_again(self):
        for thing in ([1, 0], ([1], [2, "a"]), [[3], (4, [5])], (1, 0), (2, 0)):
            before = copy.deepcopy(thing)
            first = is_direction(thing)
            self.assertIs(is_direction(thing), first)
            self.assertEqual(thing, before)


class Direction(unittest.TestCase):
    def check(self, one, other, expected):
        self.assertEqual(direction(one, other), expected)
        self.assertEqual(direction(other, one), (-expected[0], -expected[1]))
        found = direction(one, other)
        self.assertIs(type(found), tuple)
        self.assertEqual([type(part) for part in found], [int, int])

    def test_whole_points(self):
        self.check(whole(0, 0), whole(3, 2), (3, 2))
        self.check(whole(1, 1), whole(7, -2), (2, -1))
        self.check(whole(-5, 4), whole(5, 14), (1, 1))
        self.check(whole(0, 0), whole(-6, 4), (-3, 2))

    def test_straight_beside_and_above(self):
        self.check(whole(0, 0), whole(17, 0), (1, 0))
        self.check(whole(3, 3), whole(3, 99), (0, 1))
        self.check(((1, 2), (1, 3)), ((7, 5), (1, 3)), (1, 0))
        self.check(((1, 2), (1, 3)), ((1, 2), (-7, 5)), (0, -1))
        self.check(whole(-GREAT, 5), whole(GREAT, 5), (1, 0))

    def test_fractional_points(self):
        self.check(((1, 2), (1, 3)), ((1, 1), (1, 1)), (3, 4))
        self.check(((0, 1), (0, 1)), ((1, 6), (-1, 4)), (2, -3))
        self.check(((-7, 2), (5, 3)), ((1, 2), (2, 3)), (4, -1))

    def test_beyond_what_is_direction_takes(self):
        self.check(whole(0, 0), whole(201, 1), (201, 1))
        self.check(whole(0, 0), whole(402, -1000), (201, -500))
        self.check(((0, 1), (0, 1)), ((1, 1), (1, 1009)), (1009, 1))

    def test_great_numbers(self):
        self.check(whole(0, 0), whole(GREAT, GREAT - 1), (GREAT, GREAT - 1))
        self.check(whole(-GREAT, 0), whole(GREAT, 1), (2 * GREAT, 1))
        self.check(whole(0, 0), whole(GREAT, -GREAT), (1, -1))
        self.check(((1, GREAT), (0, 1)), ((0, 1), (1, GREAT - 1)), (1 - GREAT, GREAT))

    def test_against_plain_fractions(self):
        points = [((a, b), (c, d)) for a, b in ((0, 1), (-5, 2), (7, 3), (4, 1)) for c, d in ((0, 1), (3, 4), (-9, 5))]
        for one in points:
            for other in points:
                if one == other:
                    continue
                found = direction(one, other)
                dx = Fraction(*other[0]) - Fraction(*one[0])
                dy = Fraction(*other[1]) - Fraction(*one[1])
                self.assertEqual(math.gcd(*found), 1)
                self.assertEqual(dx * found[1], dy * found[0])
                self.assertGreater(dx * found[0] + dy * found[1], 0)


if __name__ == "__main__":
    unittest.main()
