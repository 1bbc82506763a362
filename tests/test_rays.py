"""Rays: what lies on them, where two meet, and where a looker stands [5]."""

import itertools
import math
import unittest
from fractions import Fraction

from helper import GREAT, told, whole
from rigeyes.rays import direction, is_on, meet, stand

WAYS = [(dx, dy) for dx in range(-2, 3) for dy in range(-2, 3) if math.gcd(dx, dy) == 1]
POINTS = [
    ((0, 1), (0, 1)),
    ((1, 1), (0, 1)),
    ((0, 1), (2, 1)),
    ((2, 1), (2, 1)),
    ((-3, 2), (1, 2)),
    ((5, 3), (-4, 5)),
]


def worth(point):
    return Fraction(*point[0]), Fraction(*point[1])


def plainly_on(point, way, other):
    """Asked of each coordinate by itself, not of a sum of both."""
    (px, py), (ox, oy) = worth(point), worth(other)
    steps = []
    for start, end, part in ((px, ox, way[0]), (py, oy, way[1])):
        if part == 0 and start != end:
            return False
        if part != 0:
            steps.append((end - start) / part)
    return steps[0] > 0 and all(step == steps[0] for step in steps)


def plainly_met(one, way, other, towards):
    """The lines as a * x + b * y = c, and then whether their point is on both rays."""
    (ox, oy), (ux, uy) = worth(one), worth(other)
    a, b, c = way[1], -way[0], way[1] * ox - way[0] * oy
    d, e, f = towards[1], -towards[0], towards[1] * ux - towards[0] * uy
    if a * e == b * d:
        return None
    point = told((c * e - b * f) / (a * e - b * d), (a * f - c * d) / (a * e - b * d))
    if plainly_on(one, way, point) and plainly_on(other, towards, point):
        return point
    return None


def turned(point):
    (x, y) = point
    return ((-y[0], y[1]), x)


def turned_way(way):
    return (-way[1], way[0])


def carried(point, dx, dy, times):
    x, y = worth(point)
    return told((x + dx) * times, (y + dy) * times)


class IsOn(unittest.TestCase):
    def test_on_the_ray(self):
        self.assertIs(is_on(whole(0, 0), (1, 0), whole(5, 0)), True)
        self.assertIs(is_on(whole(0, 0), (0, -1), whole(0, -1)), True)
        self.assertIs(is_on(whole(1, 1), (2, -3), whole(5, -5)), True)
        self.assertIs(is_on(whole(1, 1), (2, -3), ((4, 3), (1, 2))), True)
        self.assertIs(is_on(((1, 2), (1, 3)), (3, 4), whole(1, 1)), True)

    def test_behind(self):
        self.assertIs(is_on(whole(0, 0), (1, 0), whole(-5, 0)), False)
        self.assertIs(is_on(whole(0, 0), (0, -1), whole(0, 1)), False)
        self.assertIs(is_on(whole(1, 1), (2, -3), whole(-1, 4)), False)
        self.assertIs(is_on(((1, 2), (1, 3)), (-3, -4), whole(1, 1)), False)

    def test_beside(self):
        self.assertIs(is_on(whole(0, 0), (1, 0), whole(5, 1)), False)
        self.assertIs(is_on(whole(0, 0), (1, 0), ((5, 1), (1, GREAT))), False)
        self.assertIs(is_on(whole(0, 0), (1, 1), whole(GREAT, GREAT - 1)), False)
        self.assertIs(is_on(whole(0, 0), (2, 1), whole(1, 2)), False)
        self.assertIs(is_on(whole(0, 0), (1, 0), whole(0, 3)), False)

    def test_its_own_point_is_not_on_it(self):
        for point in POINTS + [whole(GREAT, -GREAT)]:
            for way in WAYS:
                self.assertIs(is_on(point, way, point), False)

    def test_great_numbers(self):
        self.assertIs(is_on(whole(-GREAT, -GREAT), (1, 1), whole(GREAT, GREAT)), True)
        self.assertIs(is_on(((1, GREAT), (0, 1)), (-1, 0), whole(0, 0)), True)
        self.assertIs(is_on(((1, GREAT), (0, 1)), (1, 0), ((1, GREAT - 1), (0, 1))), True)
        self.assertIs(is_on(((1, GREAT), (0, 1)), (-1, 0), ((1, GREAT - 1), (0, 1))), False)

    def test_numbers_of_a_way_beyond_the_rim(self):
        self.assertIs(is_on(whole(0, 0), (201, 1), whole(402, 2)), True)
        self.assertIs(is_on(whole(0, 0), (201, 1), whole(400, 2)), False)

    def test_against_plain_fractions(self):
        for point, way, other in itertools.product(POINTS, WAYS, POINTS):
            self.assertIs(is_on(point, way, other), plainly_on(point, way, other), (point, way, other))

    def test_what_lies_in_the_direction_that_is_told(self):
        for one, other in itertools.permutations(POINTS, 2):
            self.assertIs(is_on(one, direction(one, other), other), True)
            self.assertIs(is_on(other, direction(one, other), one), False)


class Pairs(unittest.TestCase):
    def same(self, asked, one, way, other, towards, expected):
        for found in (asked(one, way, other, towards), asked(other, towards, one, way)):
            self.assertEqual(found, expected, (one, way, other, towards))
            if expected is not None:
                self.lowest_terms(found)

    def lowest_terms(self, point):
        self.assertIs(type(point), tuple)
        self.assertEqual(len(point), 2)
        for fraction in point:
            self.assertIs(type(fraction), tuple)
            top, bottom = fraction
            self.assertEqual((type(top), type(bottom)), (int, int))
            self.assertGreater(bottom, 0)
            self.assertEqual(math.gcd(top, bottom), 1)


class Meet(Pairs):
    def check(self, one, way, other, towards, expected):
        self.same(meet, one, way, other, towards, expected)

    def test_at_whole_points(self):
        self.check(whole(0, 0), (1, 1), whole(4, 0), (-1, 1), whole(2, 2))
        self.check(whole(0, 0), (1, 0), whole(5, -7), (0, 1), whole(5, 0))
        self.check(whole(-3, -3), (1, 1), whole(3, -3), (-1, 1), whole(0, 0))

    def test_at_fractional_points(self):
        self.check(whole(0, 0), (1, 1), whole(1, 0), (-1, 1), ((1, 2), (1, 2)))
        self.check(whole(0, 0), (1, -1), whole(-1, 0), (1, -2), None)
        self.check(whole(0, 0), (2, -1), whole(3, 1), (-1, -1), ((4, 3), (-2, 3)))
        self.check(((1, 2), (0, 1)), (0, 1), ((0, 1), (1, 3)), (1, 0), ((1, 2), (1, 3)))

    def test_nought_is_nought_over_one(self):
        self.check(whole(-2, 0), (1, 0), whole(0, -5), (0, 1), ((0, 1), (0, 1)))
        self.check(((-1, 2), (0, 1)), (1, 0), ((0, 1), (-1, 3)), (0, 1), ((0, 1), (0, 1)))

    def test_none_where_they_would_meet_behind_one(self):
        self.check(whole(0, 0), (1, 1), whole(4, 0), (1, -1), None)
        self.check(whole(0, 0), (-1, -1), whole(4, 0), (-1, 1), None)
        self.check(whole(0, 0), (-1, -1), whole(4, 0), (1, -1), None)
        self.check(whole(0, 0), (1, 0), whole(5, -7), (0, -1), None)

    def test_none_of_parallel_rays(self):
        for way, towards in itertools.product(((1, 2), (-1, -2)), repeat=2):
            self.check(whole(0, 0), way, whole(1, 0), towards, None)

    def test_none_of_rays_on_one_line(self):
        near, far = whole(0, 0), whole(2, 4)
        for way, towards in itertools.product(((1, 2), (-1, -2)), repeat=2):
            self.check(near, way, far, towards, None)

    def test_none_of_rays_of_one_point(self):
        for way, towards in itertools.product(WAYS, repeat=2):
            self.check(whole(3, -1), way, whole(3, -1), towards, None)

    def test_none_where_ones_own_point_is_on_the_other(self):
        self.check(whole(0, 0), (1, 0), whole(3, 0), (0, 1), None)
        self.check(whole(0, 0), (1, 0), whole(3, 0), (-1, 1), None)
        self.check(((1, 2), (1, 2)), (1, 1), whole(2, 2), (-2, 1), None)

    def test_great_numbers(self):
        self.check(whole(-GREAT, 0), (1, 0), whole(GREAT, -GREAT), (0, 1), whole(GREAT, 0))
        self.check(whole(0, 0), (1, 1), whole(GREAT, 0), (-1, 1), ((GREAT, 2), (GREAT, 2)))
        found = meet(whole(0, 0), (200, 199), ((1, GREAT), (-1, GREAT - 1)), (199, 200))
        self.assertEqual(found, plainly_met(whole(0, 0), (200, 199), ((1, GREAT), (-1, GREAT - 1)), (199, 200)))
        self.assertIsNotNone(found)
        self.lowest_terms(found)

    def test_numbers_of_a_way_beyond_the_rim(self):
        self.check(whole(0, 0), (201, 1), whole(201, 0), (0, 1), whole(201, 1))

    def test_against_plain_fractions(self):
        met = 0
        for one, other in itertools.product(POINTS, repeat=2):
            for way, towards in itertools.product(WAYS, repeat=2):
                expected = plainly_met(one, way, other, towards)
                self.check(one, way, other, towards, expected)
                met += expected is not None
        self.assertGreater(met, 100)

    def test_the_point_is_on_both_rays(self):
        for one, other in itertools.permutations(POINTS, 2):
            for way, towards in itertools.product(WAYS, repeat=2):
                found = meet(one, way, other, towards)
                if found is not None:
                    self.assertTrue(is_on(one, way, found) and is_on(other, towards, found))

    def test_lookers_that_see_a_point_meet_at_it(self):
        for one, other, mark in itertools.permutations(POINTS, 3):
            way, towards = direction(one, mark), direction(other, mark)
            on_one_line = way in (towards, (-towards[0], -towards[1]))
            self.check(one, way, other, towards, None if on_one_line else mark)

    def test_moved_elsewhere_turned_and_made_greater(self):
        for one, other in itertools.permutations(POINTS, 2):
            for way, towards in itertools.product(WAYS, repeat=2):
                found = meet(one, way, other, towards)
                quarter = meet(turned(one), turned_way(way), turned(other), turned_way(towards))
                self.assertEqual(quarter, None if found is None else turned(found))
                greater = meet(carried(one, 7, -3, 5), way, carried(other, 7, -3, 5), towards)
                self.assertEqual(greater, None if found is None else carried(found, 7, -3, 5))


class Stand(Pairs):
    def check(self, one, way, other, towards, expected):
        self.same(stand, one, way, other, towards, expected)

    def test_where_the_looker_stands(self):
        self.check(whole(2, 2), (1, 1), whole(2, -2), (1, -1), whole(0, 0))
        self.check(whole(5, 0), (1, 0), whole(0, 7), (0, 1), whole(0, 0))
        self.check(whole(1, 1), (1, 1), whole(0, 1), (-1, 1), ((1, 2), (1, 2)))
        self.check(((1, 2), (0, 1)), (0, -1), whole(1, 1), (1, 1), ((1, 2), (1, 2)))
        self.check(((1, 2), (0, 1)), (0, -1), whole(1, 1), (1, 2), None)
        self.check(((1, 2), (-1, 1)), (0, -1), whole(1, 1), (2, 3), ((1, 2), (1, 4)))

    def test_a_looker_from_whom_two_are_seen_stands_there(self):
        for looker, one, other in itertools.permutations(POINTS, 3):
            way, towards = direction(looker, one), direction(looker, other)
            on_one_line = way in (towards, (-towards[0], -towards[1]))
            self.check(one, way, other, towards, None if on_one_line else looker)

    def test_none_where_it_would_stand_ahead_of_a_point(self):
        self.check(whole(2, 2), (-1, -1), whole(2, -2), (1, -1), None)
        self.check(whole(2, 2), (-1, -1), whole(2, -2), (-1, 1), None)

    def test_none_of_parallel_ways_and_of_one_line(self):
        for way, towards in itertools.product(((1, 2), (-1, -2)), repeat=2):
            self.check(whole(0, 0), way, whole(1, 0), towards, None)
            self.check(whole(0, 0), way, whole(2, 4), towards, None)

    def test_none_where_it_would_stand_at_one_of_the_two(self):
        self.check(whole(0, 0), (1, 0), whole(3, 0), (0, 1), None)
        self.check(whole(0, 0), (0, 1), whole(3, 0), (1, 0), None)
        self.check(whole(3, 0), (1, 0), whole(3, 0), (0, 1), None)

    def test_nought_and_great_numbers(self):
        self.check(whole(GREAT, 0), (1, 0), whole(0, -GREAT), (0, -1), ((0, 1), (0, 1)))
        self.check(whole(GREAT, GREAT), (1, 1), whole(0, GREAT), (-1, 1), ((GREAT, 2), (GREAT, 2)))
        self.check(((1, GREAT), (0, 1)), (1, 0), ((0, 1), (1, GREAT)), (0, 1), ((0, 1), (0, 1)))

    def test_against_plain_fractions(self):
        for one, other in itertools.product(POINTS, repeat=2):
            for way, towards in itertools.product(WAYS, repeat=2):
                back, away = (-way[0], -way[1]), (-towards[0], -towards[1])
                self.check(one, way, other, towards, plainly_met(one, back, other, away))


if __name__ == "__main__":
    unittest.main()
