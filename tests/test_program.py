"""What is promised over the whole program [3] [2]: from surveys and clocks to rigs and walks."""

import itertools
import random
import unittest
from fractions import Fraction

from helper import told, turned, way, whole
from rigeyes.blame import fewest_moved, is_moved_paper, moved_paper
from rigeyes.clocks import are_flashes, is_ring, offsets, ring
from rigeyes.rigs import Rig
from rigeyes.surveys import at_odds, is_survey, located
from rigeyes.tracks import along, walk_of, where_at

LOOKERS = ("ann", "bob", "cid", "dan")
MARKS = ("elm", "fir", "oak", "yew")
OTHERWISE = {"ann": "a", "bob": "aab", "cid": "ab", "dan": "b", "elm": "bb", "fir": "c", "fox": "cab",
             "hen": "caz", "oak": "d", "yew": "zzzzzzzz"}
MOMENTS = (40, 43, 44, 50, 57, 60)


class World:
    """Where all stand, how each clock goes, and how a fox and a hen walk."""

    def __init__(self, chance):
        spots = chance.sample(list(itertools.product(range(-20, 21), repeat=2)), 8)
        self.stand = dict(zip(LOOKERS + MARKS, spots))
        # By each clock but the first: how much the moment is ahead of it.
        self.ahead = {name: chance.randint(-9, 9) for name in LOOKERS}
        self.ahead["ann"] = 0
        self.start = {name: (chance.randint(-15, 15), chance.randint(-15, 15)) for name in ("fox", "hen")}
        self.step = {name: (chance.randint(-1, 1), chance.randint(-1, 1)) for name in ("fox", "hen")}

    def place(self, name, moment):
        (x, y), (dx, dy) = self.start[name], self.step[name]
        return (x + (moment - 40) * dx, y + (moment - 40) * dy)

    def survey(self):
        knowns = tuple((name, self.stand[name]) for name in ("ann", "bob"))
        pairs = itertools.product(LOOKERS, MARKS)
        return (knowns, tuple((one, other, way(self.stand[one], self.stand[other])) for one, other in pairs))

    def flashes(self):
        seen = {"one": (100, "ann bob cid"), "two": (105, "cid dan"), "zoo": (120, "bob dan")}
        return tuple((flash, looker, moment - self.ahead[looker], moment - self.ahead[looker])
                     for flash, (moment, lookers) in sorted(seen.items()) for looker in lookers.split())

    def sights(self):
        told = []
        for moment, looker, mark in itertools.product(MOMENTS, LOOKERS, ("fox", "hen")):
            if self.stand[looker] != self.place(mark, moment):
                there = way(self.stand[looker], self.place(mark, moment))
                told.append((looker, moment - self.ahead[looker], mark, there))
        return told


def places_by(survey, flashes, lookers=LOOKERS):
    """The places of a rig, all from what surveys and flashes tell."""
    points = {name: tuple(top // bottom for top, bottom in point) for name, point, number in located(survey)}
    least = {looker: low for looker, first, low, high in offsets(flashes) if low == high}
    return tuple((name, points[name], least[name]) for name in lookers if name in points)


def heard(places, sights):
    rig = Rig(places)
    for sight in sights:
        rig.tell(*sight)
    return rig


def track_of(fixes):
    return tuple((moment, tuple(top // bottom for top, bottom in point)) for moment, point in fixes)


def carry(point, quarters, times, by):
    """Turned by quarters, made greater, and moved."""
    x, y = point
    for _ in range(quarters):
        x, y = -y, x
    return (x * times + by[0], y * times + by[1])


def fractions(point):
    return tuple(Fraction(*part) for part in point)


def worlds(seed, many):
    """Worlds in which all lookers can be found; the seed keeps them the same."""
    chance = random.Random(seed)
    found = []
    while len(found) < many:
        world = World(chance)
        if {name for name, point, number in located(world.survey())} >= set(LOOKERS):
            found.append(world)
    return found


class FromSurveyToWalk(unittest.TestCase):
    def test_true_points_at_true_moments(self):
        fixed = 0
        for world in worlds(91, 60):
            survey, flashes = world.survey(), world.flashes()
            self.assertTrue(is_survey(survey) and are_flashes(flashes))
            self.assertEqual((at_odds(survey), fewest_moved(survey), ring(flashes)), ([], (), []))
            for name, point, number in located(survey):
                self.assertEqual(point, whole(*world.stand[name]))
            places = places_by(survey, flashes)
            self.assertEqual(places, tuple((name, world.stand[name], world.ahead[name]) for name in LOOKERS))
            sights = world.sights()
            rig = heard(places, sights)
            self.assertEqual((len(rig), rig.marks()), (len(sights), ["fox", "hen"]))
            for mark in rig.marks():
                fixes = rig.fixes(mark)
                fixed += len(fixes)
                self.assertEqual(rig.odd(mark), [])
                for moment, point in fixes:
                    self.assertIn(moment, MOMENTS)
                    self.assertEqual(point, whole(*world.place(mark, moment)))
                track = track_of(fixes)
                self.assertEqual(along(track), list(range(len(track))) if track else None)
                if len(track) > 1:
                    self.assertEqual(walk_of(track)[1], whole(*world.step[mark]))
                    for moment in (0, 40, 41, 1000):
                        self.assertEqual(where_at(walk_of(track), moment), whole(*world.place(mark, moment)))
        self.assertGreater(fixed, 600)

    def test_in_whatever_order_it_hears(self):
        chance = random.Random(92)
        for world in worlds(93, 20):
            places = places_by(world.survey(), world.flashes())
            sights = world.sights()
            first = heard(places, sights)
            for _ in range(3):
                chance.shuffle(sights)
                again = heard(places, sights)
                self.assertIs(again == first, True)
                for mark in ("fox", "hen"):
                    self.assertEqual((again.fixes(mark), again.odd(mark)), (first.fixes(mark), first.odd(mark)))

    def test_a_false_looker_is_found_and_left_out(self):
        places = {"ann": (0, 0), "bob": (10, 0), "cid": (0, 10), "dan": (10, 10)}
        knowns = tuple(sorted(places.items()))
        sights = [(looker, mark, way(places[looker], point))
                  for looker in places for mark, point in (("elm", (3, 4)), ("oak", (7, 5)))]
        survey = turned((knowns, tuple(sorted(sights))), "bob", "elm", (-1, 5))
        survey = turned(survey, "bob", "oak", (-1, 6))
        self.assertIs(is_survey(survey), True)
        self.assertNotEqual(at_odds(survey), [])
        self.assertEqual(fewest_moved(survey), ("bob",))
        self.assertIs(is_moved_paper(survey, 1, moved_paper(survey)), True)
        rows = tuple((name, point, 0) for name, point in knowns)
        told_ways = [(name, 7, "fox", way(point, (4, 6))) for name, point in knowns if name != "bob"]
        rig = heard(rows, told_ways + [("bob", 7, "fox", (0, 1))])
        self.assertNotEqual(rig.fixes("fox"), [(7, whole(4, 6))])
        self.assertNotEqual(rig.odd("fox"), [])
        rig = heard(tuple(row for row in rows if row[0] != "bob"), told_ways)
        self.assertEqual((rig.fixes("fox"), rig.odd("fox")), ([(7, whole(4, 6))], []))

    def test_a_false_fix_is_no_row_of_the_walk(self):
        rows = (("ann", (0, 0), 0), ("bob", (30, 0), 5))
        world = {moment: (moment, 10) for moment in range(5, 12)}
        world[8] = (20, 20)
        sights = [(name, moment - offset, "fox", way(stand, point)) for name, stand, offset in rows
                  for moment, point in world.items()]
        track = track_of(heard(rows, sights).fixes("fox"))
        self.assertEqual([moment for moment, point in track], list(range(5, 12)))
        self.assertEqual(along(track), [0, 1, 2, 4, 5, 6])
        self.assertEqual(walk_of(track), (whole(0, 10), whole(1, 0)))
        self.assertEqual(where_at(walk_of(track), 8), whole(8, 10))

    def test_clocks_that_cannot_be_joined(self):
        for world in worlds(94, 10):
            flashes = list(world.flashes())
            self.assertEqual(offsets(tuple(flashes))[0], ("ann", "ann", 0, 0))
            flashes += [("zip", "ann", 500, 500), ("zip", "cid", 501 - world.ahead["cid"], 501 - world.ahead["cid"])]
            flashes = tuple(sorted(flashes))
            self.assertIsNone(offsets(flashes))
            steps = ring(flashes)
            late = {(flash, looker): high for flash, looker, low, high in flashes}
            early = {(flash, looker): low for flash, looker, low, high in flashes}
            self.assertIs(is_ring(flashes, steps), True)
            self.assertLess(sum(late[flash, other] - early[flash, one] for one, other, flash in steps), 0)


class ToldAlike(unittest.TestCase):
    def test_moved_turned_and_made_greater(self):
        for number, world in enumerate(worlds(95, 24)):
            given = (number % 4, 1 + number % 3, (number - 7, 9 - number))
            survey, flashes = world.survey(), world.flashes()
            knowns, sights = survey
            other = (
                tuple((name, carry(point, *given)) for name, point in knowns),
                tuple((looker, mark, carry(there, given[0], 1, (0, 0))) for looker, mark, there in sights),
            )
            self.assertIs(is_survey(other), True)
            expected = [(name, told(*carry(fractions(point), *given)), turn) for name, point, turn in located(survey)]
            self.assertEqual(located(other), expected)
            one = heard(places_by(survey, flashes), self.seen(world.sights(), 0))
            two = heard(places_by(other, flashes), self.seen(world.sights(), given[0]))
            for mark in ("fox", "hen"):
                fixes = [(moment, told(*carry(fractions(point), *given))) for moment, point in one.fixes(mark)]
                self.assertEqual(two.fixes(mark), fixes)
                self.assertEqual(two.odd(mark), one.odd(mark))
                self.walks_alike(one.fixes(mark), given)

    def seen(self, sights, quarters):
        """The sights, of which one in nine is false, turned by quarters."""
        falsely = [(*sight[:3], (1, 0)) if at % 9 == 4 else sight for at, sight in enumerate(sights)]
        return [(*sight[:3], carry(sight[3], quarters, 1, (0, 0))) for sight in falsely]

    def walks_alike(self, fixes, given):
        """Of the track of those fixes that are in whole numbers."""
        track = tuple((moment, (x[0], y[0])) for moment, (x, y) in fixes if x[1] == y[1] == 1)
        other = tuple((moment, carry(point, *given)) for moment, point in track)
        self.assertEqual(along(other), along(track))
        if track:
            start, step = walk_of(track)
            expected = (told(*carry(fractions(start), *given)), told(*carry(fractions(step), *given[:2], (0, 0))))
            self.assertEqual(walk_of(other), expected)

    def test_called_otherwise_in_the_same_order(self):
        self.assertEqual(sorted(OTHERWISE), sorted(OTHERWISE, key=OTHERWISE.get))
        for world in worlds(96, 24):
            survey, flashes = world.survey(), world.flashes()
            other = (
                tuple((OTHERWISE[name], point) for name, point in survey[0]),
                tuple((OTHERWISE[looker], OTHERWISE[mark], there) for looker, mark, there in survey[1]),
            )
            calls = tuple((flash + "x", OTHERWISE[looker], early, late) for flash, looker, early, late in flashes)
            self.assertEqual(located(other), [(OTHERWISE[row[0]], *row[1:]) for row in located(survey)])
            expected = [(OTHERWISE[looker], OTHERWISE[first], *rest) for looker, first, *rest in offsets(flashes)]
            self.assertEqual(offsets(calls), expected)
            one = heard(places_by(survey, flashes), self.seen(world.sights(), 0))
            lookers = [OTHERWISE[name] for name in LOOKERS]
            sights = [(OTHERWISE[looker], moment, OTHERWISE[mark], there)
                      for looker, moment, mark, there in self.seen(world.sights(), 0)]
            two = heard(places_by(other, calls, lookers), sights)
            self.assertEqual(two.marks(), [OTHERWISE[mark] for mark in one.marks()])
            for mark in one.marks():
                self.assertEqual(two.fixes(OTHERWISE[mark]), one.fixes(mark))
                expected = [(moment, OTHERWISE[looker]) for moment, looker in one.odd(mark)]
                self.assertEqual(two.odd(OTHERWISE[mark]), expected)

    def test_more_sights_find_no_less(self):
        for world in worlds(97, 20):
            knowns, sights = world.survey()
            for fewer in (8, 11, 14):
                few = {name for name, point, number in located((knowns, sights[:fewer]))}
                self.assertLessEqual(few, {name for name, point, number in located((knowns, sights))})
            places = places_by((knowns, sights), world.flashes())
            rig, before = Rig(places), {}
            for sight in world.sights():
                rig.tell(*sight)
                for mark in rig.marks():
                    fixes = rig.fixes(mark)
                    # All sights are true, so what was told stays as it was.
                    self.assertLessEqual(set(before.get(mark, [])), set(fixes))
                    self.assertEqual(rig.odd(mark), [])
                    before[mark] = fixes


if __name__ == "__main__":
    unittest.main()
