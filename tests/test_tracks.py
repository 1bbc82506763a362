"""Tracks, the most rows of one walk, and where a walk is [16] [3] [2]."""

import copy
import itertools
import math
import random
import unittest
from fractions import Fraction

from helper import GREAT, told, whole
from rigeyes.tracks import along, walk_of, where_at

STILL = ((0, 1), (0, 1))


def rows_of(start, step, moments):
    """Rows of the walk in whole numbers."""
    return [(moment, (start[0] + moment * step[0], start[1] + moment * step[1])) for moment in moments]


def plain_walk(one, other):
    """(start, step) of Fractions, by two rows."""
    step = [Fraction(b - a, other[0] - one[0]) for a, b in zip(one[1], other[1])]
    return [place - one[0] * each for place, each in zip(one[1], step)], step


def is_one_walk(rows):
    if len(rows) < 2:
        return True
    start, step = plain_walk(rows[0], rows[1])
    return all(start[at] + moment * step[at] == point[at] for moment, point in rows for at in (0, 1))


def plainly_along(track):
    """By trying all lots of rows, the greater ones ahead, of as many in order."""
    for many in range(len(track), 0, -1):
        for places in itertools.combinations(range(len(track)), many):
            if is_one_walk([track[at] for at in places]):
                return list(places)
    return None


def random_track(chance, most, spread):
    """A track of at most so many rows, in which some walks are hidden."""
    rows = {}
    for _ in range(chance.randint(1, 3)):
        start = (chance.randint(-spread, spread), chance.randint(-spread, spread))
        step = (chance.randint(-2, 2), chance.randint(-2, 2))
        rows.update(rows_of(start, step, chance.sample(range(16), chance.randint(1, 6))))
    for moment in chance.sample(range(16), chance.randint(0, 4)):
        rows[moment] = (chance.randint(-spread, spread), chance.randint(-spread, spread))
    return tuple(sorted(rows.items())[:most])


class Along(unittest.TestCase):
    def check(self, track, places):
        self.assertEqual(along(track), places, track)
        self.assertEqual(plainly_along(track), places, track)

    def test_no_row(self):
        self.assertIsNone(along(()))
        self.assertIsNone(walk_of(()))

    def test_one_row(self):
        for row in ((0, (0, 0)), (7, (3, -4)), (1000, (999, -999)), (0, (-999, 999))):
            self.check((row,), [0])
            self.assertEqual(walk_of((row,)), (whole(*row[1]), STILL))

    def test_two_rows(self):
        self.check(((0, (0, 0)), (1, (5, 7))), [0, 1])
        self.check(((3, (2, 2)), (900, (2, 2))), [0, 1])
        self.assertEqual(walk_of(((0, (0, 0)), (1, (5, 7)))), (whole(0, 0), whole(5, 7)))
        self.assertEqual(walk_of(((3, (2, 2)), (900, (2, 2)))), (whole(2, 2), STILL))

    def test_all_rows_of_one_walk(self):
        for many in range(1, 13):
            track = tuple(rows_of((3, -50), (-4, 7), range(0, 3 * many, 3)))
            self.check(track, list(range(many)))
        track = tuple(rows_of((9, 9), (0, 0), (0, 1, 5, 1000)))
        self.check(track, [0, 1, 2, 3])
        self.assertEqual(walk_of(track), (whole(9, 9), STILL))

    def test_none_of_three_on_one(self):
        track = tuple((moment, (moment * moment, 0)) for moment in range(6))
        self.check(track, [0, 1])
        self.assertEqual(walk_of(track), (whole(0, 0), whole(1, 0)))
        self.check(tuple((moment, (0, moment * moment)) for moment in range(5)), [0, 1])

    def test_one_row_too_many(self):
        good = rows_of((0, 10), (2, -1), (0, 2, 3, 7))
        for moment, at in ((1, 1), (5, 3), (9, 4)):
            track = tuple(sorted(good + [(moment, (100, 100))]))
            self.check(track, [place for place in range(5) if place != at])
            self.assertEqual(walk_of(track), (whole(0, 10), whole(2, -1)))

    def test_on_the_way_at_another_moment(self):
        # The point is one of the walk's, but not at this moment; x alone, or y alone, is not enough.
        self.check(((0, (0, 0)), (1, (1, 1)), (2, (2, 2)), (3, (5, 5))), [0, 1, 2])
        self.check(((0, (0, 0)), (1, (1, 1)), (2, (2, 3)), (3, (3, 3))), [0, 1, 3])
        self.check(((0, (0, 0)), (1, (1, 1)), (2, (3, 2)), (3, (3, 3))), [0, 1, 3])

    def test_of_as_many_the_first_ones(self):
        # Two walks of three rows each.
        one, other = rows_of((0, 0), (1, 0), (0, 3, 4)), rows_of((50, 1), (0, 5), (1, 2, 5))
        self.check(tuple(sorted(one + other)), [0, 3, 4])
        one, other = rows_of((0, 0), (1, 0), (1, 3, 4)), rows_of((50, 1), (0, 5), (0, 2, 5))
        self.check(tuple(sorted(one + other)), [0, 2, 5])
        # Two that have their first row in common: (0, 1, 5) comes ahead of (0, 2, 3).
        one, other = rows_of((0, 0), (1, 0), (0, 2, 3)), rows_of((0, 0), (0, 5), (0, 1, 5))
        track = tuple(sorted(set(one + other)))
        self.assertEqual(len(track), 5)
        self.check(track, [0, 1, 4])
        self.assertEqual(walk_of(track), (whole(0, 0), whole(0, 5)))
        # Two that have their last row in common.
        one, other = rows_of((9, 0), (-1, 0), (2, 3, 9)), rows_of((0, 9), (0, -1), (1, 4, 9))
        self.check(tuple(sorted(set(one + other))), [0, 3, 4])

    def test_more_ahead_of_first(self):
        one, other = rows_of((0, 0), (1, 0), (0, 1, 2)), rows_of((50, 1), (0, 5), (3, 4, 5, 6))
        self.check(tuple(one + other), [3, 4, 5, 6])
        self.assertEqual(walk_of(tuple(one + other)), (whole(50, 1), whole(0, 5)))

    def test_steps_and_starts_that_are_fractions(self):
        track = ((1, (0, 0)), (4, (1, 2)), (7, (2, 4)))
        self.check(track, [0, 1, 2])
        self.assertEqual(walk_of(track), (((-1, 3), (-2, 3)), ((1, 3), (2, 3))))
        track = ((2, (5, -1)), (8, (2, 3)))
        self.assertEqual(walk_of(track), (((6, 1), (-7, 3)), ((-1, 2), (2, 3))))
        track = ((3, (1, 1)), (9, (1, 4)))
        self.assertEqual(walk_of(track), (((1, 1), (-1, 2)), ((0, 1), (1, 2))))

    def test_at_the_limits(self):
        track = ((0, (-999, 999)), (1000, (999, -999)))
        self.assertEqual(walk_of(track), (whole(-999, 999), ((999, 500), (-999, 500))))
        track = ((999, (-999, 999)), (1000, (999, -999)))
        self.assertEqual(walk_of(track), (whole(-999 - 1998 * 999, 999 + 1998 * 999), whole(1998, -1998)))
        track = ((0, (-999, -999)), (500, (0, 0)), (1000, (999, 999)))
        self.check(track, [0, 1, 2])
        self.check(((0, (-999, -999)), (500, (0, 1)), (1000, (999, 999))), [0, 1])

    def test_twelve_rows_and_somewhat_beyond(self):
        for many in (12, 13, 15):
            good = rows_of((-7, 3), (2, 1), range(0, 2 * many, 4))
            track = tuple(sorted(good + [(moment, (moment * moment, 7 * moment % 11)) for moment in range(1, many, 2)]))
            self.check(track, plainly_along(track))
            self.assertEqual([track[at] for at in along(track)], good)
        track = ((0, (0, 0)), (2000, (5000, -4000)), (4000, (10000, -8000)))
        self.check(track, [0, 1, 2])

    def test_against_all_lots_of_rows(self):
        chance = random.Random(71)
        sizes = {}
        for turn in range(300):
            track = random_track(chance, 9, 3 if turn % 2 else 9)
            places = plainly_along(track)
            self.assertEqual(along(track), places, track)
            sizes[len(places)] = True
            if len(places) > 1:
                start, step = plain_walk(track[places[0]], track[places[1]])
                self.assertEqual(walk_of(track), (told(*start), told(*step)))
        for size in (2, 3, 4, 5, 6):
            self.assertIn(size, sizes)

    def test_lowest_terms(self):
        chance = random.Random(72)
        for _ in range(200):
            for point in walk_of(random_track(chance, 12, 99)):
                for top, bottom in point:
                    self.assertEqual((type(top), type(bottom)), (int, int))
                    self.assertGreater(bottom, 0)
                    self.assertEqual(math.gcd(top, bottom), 1)

    def test_moved_turned_and_made_greater(self):
        chance = random.Random(73)
        for _ in range(100):
            track = random_track(chance, 12, 9)
            elsewhere = tuple((moment, (-7 * y + 31, 7 * x - 57)) for moment, (x, y) in track)
            self.assertEqual(along(elsewhere), along(track))
            (x, y), (dx, dy) = [[Fraction(*part) for part in point] for point in walk_of(track)]
            self.assertEqual(walk_of(elsewhere), (told(-7 * y + 31, 7 * x - 57), told(-7 * dy, 7 * dx)))
            later = tuple((moment + 40, point) for moment, point in track)
            self.assertEqual(along(later), along(track))

    def test_kinds_new_lists_and_nothing_changed(self):
        track = tuple(rows_of((0, 0), (1, 2), (0, 1, 2)) + [(5, (9, 9))])
        before = copy.deepcopy(track)
        places = along(track)
        self.assertEqual((type(places), {type(place) for place in places}), (list, {int}))
        places.append("more")
        self.assertEqual(along(track), [0, 1, 2])
        self.assertIsNot(along(track), along(track))
        single = along(track[:1])
        single.append("more")
        self.assertEqual(along(track[:1]), [0])
        walk = walk_of(track)
        self.assertEqual(walk_of(track), walk)
        self.assertEqual([type(walk), type(walk[0]), type(walk[1]), type(walk[0][0])], [tuple] * 4)
        self.assertEqual(track, before)


class WhereAt(unittest.TestCase):
    def test_by_hand(self):
        self.assertEqual(where_at((whole(3, -4), STILL), 0), whole(3, -4))
        self.assertEqual(where_at((whole(3, -4), STILL), 1000), whole(3, -4))
        self.assertEqual(where_at((whole(3, -4), whole(1, 2)), 0), whole(3, -4))
        self.assertEqual(where_at((whole(3, -4), whole(1, 2)), 2), whole(5, 0))
        self.assertEqual(where_at((whole(-999, 999), whole(-1, 1)), 1000), whole(-1999, 1999))

    def test_fractions_in_lowest_terms(self):
        walk = (((1, 2), (-2, 3)), ((1, 3), (1, 6)))
        self.assertEqual(where_at(walk, 0), ((1, 2), (-2, 3)))
        self.assertEqual(where_at(walk, 1), ((5, 6), (-1, 2)))
        self.assertEqual(where_at(walk, 3), ((3, 2), (-1, 6)))
        self.assertEqual(where_at(walk, 4), ((11, 6), (0, 1)))
        self.assertEqual(where_at((((1, 2), (1, 2)), ((-1, 2), (1, 2))), 1), ((0, 1), (1, 1)))

    def test_against_plain_fractions(self):
        chance = random.Random(74)
        for _ in range(500):
            parts = [Fraction(chance.randint(-50, 50), chance.randint(1, 12)) for _ in range(4)]
            for moment in (0, 1, 2, 3, 7, 12, 999, 1000, 10**6, GREAT):
                walk = (told(*parts[:2]), told(*parts[2:]))
                expected = told(parts[0] + moment * parts[2], parts[1] + moment * parts[3])
                self.assertEqual(where_at(walk, moment), expected)

    def test_goes_by_the_rows_that_are_told_and_no_others(self):
        chance = random.Random(75)
        for _ in range(200):
            track = random_track(chance, 12, 9)
            walk, places = walk_of(track), along(track)
            for at, (moment, point) in enumerate(track):
                self.assertEqual(where_at(walk, moment) == whole(*point), at in places)

    def test_kinds_and_nothing_changed(self):
        walk = (((1, 2), (-2, 3)), ((1, 3), (1, 6)))
        before = copy.deepcopy(walk)
        point = where_at(walk, 5)
        self.assertEqual([type(point), type(point[0]), type(point[1]), type(point[0][0])], [tuple, tuple, tuple, int])
        self.assertEqual(where_at(walk, 5), point)
        self.assertEqual(walk, before)


if __name__ == "__main__":
    unittest.main()
