"""What is found, in which round and by which way [7] [3] [2]."""

import copy
import math
import random
import unittest
from fractions import Fraction

from helper import GREAT, plainly_found, random_surveys, survey_of, told, turned, whole
from rigeyes.surveys import is_survey, located, way_to

PLACES = {
    "a": (0, 0), "b": (10, 0), "c": (3, 9), "d": (8, 7), "e": (-2, 5),
    "m": (4, 4), "n": (6, 1), "o": (1, 6), "p": (-3, -3), "q": (9, 3),
}
DIAMOND = survey_of(PLACES, "a b", "a-m b-m a-n b-n c-m c-n d-m d-n c-o d-o e-m e-n")


def plainly_way(found, name):
    """The steps of point 7, from all by whose points name comes to be found."""
    if name not in found:
        return None
    needed, waiting = set(), [name]
    while waiting:
        each = waiting.pop()
        if found[each][2] is not None and each not in needed:
            needed.add(each)
            waiting += found[each][2]
    return [(each, *found[each][2]) for each in sorted(needed, key=lambda each: (found[each][1], each))]


def names_of(survey):
    return sorted({name for name, place in survey[0]} | {name for row in survey[1] for name in row[:2]})


class Checked(unittest.TestCase):
    def check(self, survey):
        """Against plain fractions: all that is told of the survey."""
        found = plainly_found(survey)
        expected = [(name, told(*found[name][0]), found[name][1]) for name in sorted(found)]
        self.assertEqual(located(survey), expected, survey)
        for name in [*names_of(survey), "nobody"]:
            self.assertEqual(way_to(survey, name), plainly_way(found, name), (survey, name))
        return found


class Located(Checked):
    def test_knowns_alone(self):
        survey = ((("a", (3, -4)), ("b", (0, 0)), ("zz", (-99, 99))), ())
        self.assertEqual(located(survey), [("a", whole(3, -4), 0), ("b", whole(0, 0), 0), ("zz", whole(-99, 99), 0)])
        for name in ("a", "b", "zz"):
            self.assertEqual(way_to(survey, name), [])

    def test_one_known_finds_nothing_more(self):
        survey = survey_of(PLACES, "a", "a-m a-n b-m b-n")
        self.assertEqual(located(survey), [("a", whole(0, 0), 0)])
        self.assertEqual(way_to(survey, "a"), [])
        for name in "mnb":
            self.assertIsNone(way_to(survey, name))

    def test_a_mark_from_two_lookers(self):
        survey = survey_of(PLACES, "a b", "a-m b-m")
        self.assertEqual(located(survey), [("a", whole(0, 0), 0), ("b", whole(10, 0), 0), ("m", whole(4, 4), 1)])
        self.assertEqual(way_to(survey, "m"), [("m", "a", "b")])

    def test_a_looker_from_two_marks(self):
        survey = survey_of(PLACES, "m n", "a-m a-n")
        self.assertEqual(located(survey), [("a", whole(0, 0), 1), ("m", whole(4, 4), 0), ("n", whole(6, 1), 0)])
        self.assertEqual(way_to(survey, "a"), [("a", "m", "n")])

    def test_a_looker_and_a_mark_known_find_nothing(self):
        survey = survey_of(PLACES, "a m", "a-n b-m b-n a-m")
        self.assertEqual([row[0] for row in located(survey)], ["a", "m"])

    def test_several_rounds(self):
        survey = survey_of(PLACES, "a b", "a-m b-m a-n b-n c-m c-n c-o b-o e-o e-m")
        rounds = {name: number for name, point, number in located(survey)}
        self.assertEqual(rounds, {"a": 0, "b": 0, "m": 1, "n": 1, "c": 2, "o": 3, "e": 4})
        for name, point, number in located(survey):
            self.assertEqual(point, whole(*PLACES[name]))
        self.assertEqual(way_to(survey, "c"), [("m", "a", "b"), ("n", "a", "b"), ("c", "m", "n")])
        self.assertEqual(way_to(survey, "n"), [("n", "a", "b")])
        self.assertEqual(
            way_to(survey, "e"),
            [("m", "a", "b"), ("n", "a", "b"), ("c", "m", "n"), ("o", "b", "c"), ("e", "m", "o")],
        )

    def test_the_first_two_by_names_where_a_later_two_tell_otherwise(self):
        knowns = (("a", (0, 0)), ("b", (4, 0)), ("c", (8, 0)))
        survey = (knowns, (("a", "m", (1, 1)), ("b", "m", (-1, 1)), ("c", "m", (-1, 1))))
        self.assertEqual(located(survey)[-1], ("m", whole(2, 2), 1))
        self.assertEqual(way_to(survey, "m"), [("m", "a", "b")])
        self.check(survey)
        knowns = (("a", (8, 0)), ("b", (4, 0)), ("c", (0, 0)))
        later = (knowns, (("a", "m", (-1, 1)), ("b", "m", (-1, 1)), ("c", "m", (1, 1))))
        self.assertEqual(located(later)[-1], ("m", whole(4, 4), 1))
        self.assertEqual(way_to(later, "m"), [("m", "a", "c")])

    def test_the_first_two_marks_by_names(self):
        knowns = (("m", (1, 1)), ("n", (1, -1)), ("o", (5, -1)))
        survey = (knowns, (("a", "m", (1, 1)), ("a", "n", (1, -1)), ("a", "o", (1, -1))))
        self.assertEqual(located(survey)[0], ("a", whole(0, 0), 1))
        self.assertEqual(way_to(survey, "a"), [("a", "m", "n")])

    def test_two_whose_rays_do_not_meet_are_passed_over(self):
        knowns = (("a", (0, 0)), ("b", (4, 0)), ("c", (0, 6)), ("d", (9, 9)))
        # a and b look in parallel, c away from both.
        none = (("a", "m", (1, 2)), ("b", "m", (1, 2)), ("c", "m", (-1, 1)))
        self.assertEqual(way_to((knowns, none), "m"), None)
        self.assertEqual([row[0] for row in located((knowns, none))], ["a", "b", "c", "d"])
        survey = (knowns, (*none, ("d", "m", (-1, 1))))
        self.assertEqual(way_to(survey, "m"), [("m", "a", "d")])
        self.assertEqual(located(survey)[-1], ("m", whole(6, 12), 1))
        self.check(survey)

    def test_the_first_one_may_be_passed_over_altogether(self):
        knowns = (("a", (0, 0)), ("b", (4, 0)), ("c", (8, 0)))
        survey = (knowns, (("a", "m", (0, -1)), ("b", "m", (1, 1)), ("c", "m", (-1, 1))))
        self.assertEqual(way_to(survey, "m"), [("m", "b", "c")])
        self.assertEqual(located(survey)[-1], ("m", whole(6, 2), 1))

    def test_a_looker_that_would_stand_ahead_of_a_mark_is_not_found(self):
        survey = ((("m", (1, 1)), ("n", (1, -1))), (("a", "m", (-1, -1)), ("a", "n", (-1, 1))))
        # Rays along the sights would meet at the origin, those that go back meet nowhere.
        self.assertEqual([row[0] for row in located(survey)], ["m", "n"])

    def test_nothing_is_found_by_what_is_found_in_the_same_round(self):
        places = {"b": (1, 1), "f": (3, 3), "g": (5, 6), "h": (2, 7), "k": (0, 0), "l": (10, 0), "z": (7, 8)}
        # f is found in round 1, and z, which comes behind it by names, sees f and the known g.
        self.round_and_way(survey_of(places, "g k l", "k-f l-f z-f z-g"), "z", 2, [("f", "k", "l"), ("z", "f", "g")])
        # b is found in round 1, and f, which comes behind it by names, is seen by b and the known l.
        self.round_and_way(survey_of(places, "g h l", "b-g b-h b-f l-f"), "f", 2, [("b", "g", "h"), ("f", "b", "l")])
        # The two are known ones, though one that is found in the same round comes ahead of them by names.
        self.round_and_way(survey_of(places, "g h k l", "k-f l-f z-f z-g z-h"), "z", 1, [("z", "g", "h")])
        self.round_and_way(survey_of(places, "g h k l", "b-g b-h b-f k-f l-f"), "f", 1, [("f", "k", "l")])

    def round_and_way(self, survey, name, number, steps):
        self.assertIn((name, number), [(row[0], row[2]) for row in located(survey)])
        self.assertEqual(way_to(survey, name), steps)
        self.check(survey)

    def test_a_step_that_two_others_lean_on_is_told_once(self):
        steps = [("m", "a", "b"), ("n", "a", "b"), ("c", "m", "n"), ("d", "m", "n"), ("o", "c", "d")]
        self.assertEqual(way_to(DIAMOND, "o"), steps)
        # e is found, too, but nothing leans on it.
        self.assertEqual(way_to(DIAMOND, "e"), [("m", "a", "b"), ("n", "a", "b"), ("e", "m", "n")])
        self.check(DIAMOND)

    def test_a_way_goes_by_rounds_then_by_names(self):
        places = {"x": (0, 0), "y": (10, 0), "z": (3, 3), "s": (5, 6), "c": (1, 9), "a": (8, 2), "d": (9, 9)}
        survey = survey_of(places, "x y", "x-z y-z x-s y-s c-z c-s d-z d-s c-a d-a")
        self.assertEqual(
            way_to(survey, "a"),
            [("s", "x", "y"), ("z", "x", "y"), ("c", "s", "z"), ("d", "s", "z"), ("a", "c", "d")],
        )

    def test_names_that_none_has(self):
        for name in ("", "nobody", "A", "a b", "x" * 30, "\u00e9", "aa"):
            self.assertIsNone(way_to(DIAMOND, name))
        self.assertIsNone(way_to(survey_of(PLACES, "a b", "a-m c-n"), "m"))

    def test_points_in_lowest_terms(self):
        sights = (("a", "m", (1, 1)), ("a", "n", (2, -1)), ("b", "m", (-1, 2)), ("b", "n", (0, -1)))
        survey = ((("a", (0, 0)), ("b", (2, 0))), sights)
        self.assertEqual(located(survey)[2:], [("m", ((4, 3), (4, 3)), 1), ("n", whole(2, -1), 1)])
        survey = ((("a", (0, 0)), ("b", (3, 0))), (("a", "m", (1, -1)), ("b", "m", (-1, -2))))
        self.assertEqual(located(survey)[2:], [("m", ((2, 1), (-2, 1)), 1)])
        survey = ((("a", (-1, 0)), ("b", (0, -1))), (("a", "m", (1, 0)), ("b", "m", (0, 1))))
        self.assertEqual(located(survey)[2:], [("m", ((0, 1), (0, 1)), 1)])
        for places, survey in random_surveys(3, 100, falsely=2):
            for name, point, number in located(survey):
                for top, bottom in point:
                    self.assertEqual((type(top), type(bottom)), (int, int))
                    self.assertGreater(bottom, 0)
                    self.assertEqual(math.gcd(top, bottom), 1)

    def test_a_known_one_stays_where_it_is_known(self):
        survey = ((("a", (0, 0)), ("b", (4, 0)), ("m", (9, 9))), (("a", "m", (1, 1)), ("b", "m", (-1, 1))))
        self.assertEqual(located(survey)[2], ("m", whole(9, 9), 0))
        self.assertEqual(way_to(survey, "m"), [])

    def test_kinds_of_what_is_told(self):
        rows = located(DIAMOND)
        self.assertIs(type(rows), list)
        for row in rows:
            self.assertEqual([type(part) for part in row], [str, tuple, int])
            self.assertIs(type(row), tuple)
        for step in way_to(DIAMOND, "o"):
            self.assertIs(type(step), tuple)
            self.assertEqual([type(part) for part in step], [str, str, str])

    def test_against_plain_fractions(self):
        deepest = 0
        surveys = random_surveys(4, 300) + random_surveys(5, 300, falsely=2) + random_surveys(6, 200, 20, 5)
        for places, survey in surveys:
            found = self.check(survey)
            deepest = max(deepest, *[number for point, number, two in found.values()])
        self.assertGreaterEqual(deepest, 4)

    def test_somewhat_beyond_the_limits(self):
        chance = random.Random(7)
        lookers, marks = list("abcdefgh"), list("pqrstuvwx")
        for _ in range(20):
            places = {name: (chance.randint(-300, 300), chance.randint(-300, 300)) for name in lookers + marks}
            if len(set(places.values())) < len(places):
                continue
            pairs = chance.sample([f"{one}-{other}" for one in lookers for other in marks], 30)
            survey = survey_of(places, " ".join(chance.sample(lookers + marks, 8)), " ".join(pairs))
            self.assertIs(is_survey(survey), False)
            for name, point, number in located(survey):
                self.assertEqual(point, whole(*places[name]))
            self.check(survey)
        self.assertEqual(located(((("a", (GREAT, -GREAT)),), ())), [("a", whole(GREAT, -GREAT), 0)])
        self.assertEqual(located(((), ())), [])

    def test_each_list_is_a_new_one(self):
        before = copy.deepcopy(DIAMOND)
        rows, steps, nothing = located(DIAMOND), way_to(DIAMOND, "o"), way_to(DIAMOND, "a")
        kept = copy.deepcopy((rows, steps, nothing))
        rows.clear()
        steps.append("more")
        nothing.append("more")
        again = (located(DIAMOND), way_to(DIAMOND, "o"), way_to(DIAMOND, "a"))
        self.assertEqual(again, kept)
        self.assertIsNot(located(DIAMOND), again[0])
        self.assertIsNot(way_to(DIAMOND, "o"), again[1])
        self.assertIsNot(way_to(DIAMOND, "a"), again[2])
        self.assertEqual(DIAMOND, before)


class Promise(Checked):
    def test_true_sights_find_each_where_it_stands(self):
        many = 0
        for places, survey in random_surveys(8, 300):
            for name, point, number in located(survey):
                self.assertEqual(point, whole(*places[name]))
                many += number > 0
        self.assertGreater(many, 300)

    def test_more_sights_find_no_less(self):
        for places, survey in random_surveys(9, 150):
            all_names = {row[0] for row in located(survey)}
            for at in range(len(survey[1])):
                fewer = (survey[0], survey[1][:at] + survey[1][at + 1:])
                self.assertLessEqual({row[0] for row in located(fewer)}, all_names)

    def test_moved_elsewhere(self):
        for places, survey in random_surveys(10, 100, falsely=2):
            elsewhere = (tuple((name, (x + 31, y - 57)) for name, (x, y) in survey[0]), survey[1])
            self.assertIs(is_survey(elsewhere), True)
            self.same(survey, elsewhere, lambda x, y: (x + 31, y - 57))

    def test_made_greater(self):
        for places, survey in random_surveys(11, 100, falsely=2):
            greater = (tuple((name, (x * 7, y * 7)) for name, (x, y) in survey[0]), survey[1])
            self.same(survey, greater, lambda x, y: (x * 7, y * 7))

    def test_turned_by_quarters(self):
        for places, survey in random_surveys(12, 100, falsely=2):
            quarter = (
                tuple((name, (-y, x)) for name, (x, y) in survey[0]),
                tuple((looker, mark, (-dy, dx)) for looker, mark, (dx, dy) in survey[1]),
            )
            self.same(survey, quarter, lambda x, y: (-y, x))

    def same(self, survey, other, carry):
        expected = [
            (name, told(*carry(Fraction(*x), Fraction(*y))), number) for name, (x, y), number in located(survey)
        ]
        self.assertEqual(located(other), expected)
        for name in names_of(survey):
            self.assertEqual(way_to(other, name), way_to(survey, name))

    def test_called_otherwise_in_the_same_order(self):
        for places, survey in random_surveys(13, 100, falsely=2):
            names = names_of(survey)
            called = dict(zip(names, ("ab", "b", "ba", "caaaaaaa", "cab", "d", "daz", "db", "q", "xyz")))
            other = (
                tuple((called[name], place) for name, place in survey[0]),
                tuple((called[looker], called[mark], way) for looker, mark, way in survey[1]),
            )
            self.assertIs(is_survey(other), True)
            self.assertEqual(located(other), [(called[name], point, number) for name, point, number in located(survey)])
            for name in names:
                steps = way_to(survey, name)
                expected = None if steps is None else [tuple(called[each] for each in step) for step in steps]
                self.assertEqual(way_to(other, called[name]), expected)

    def test_a_false_sight_is_not_mended(self):
        survey = turned(survey_of(PLACES, "a b", "a-m b-m"), "a", "m", (2, 1))
        self.assertEqual(located(survey)[2], ("m", told(Fraction(40, 7), Fraction(20, 7)), 1))
        self.check(survey)


if __name__ == "__main__":
    unittest.main()
