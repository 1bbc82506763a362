"""Sights at odds, and sound surveys [8] [3] [2]."""

import copy
import unittest

from helper import plainly_odd, random_surveys, survey_of, turned
from rigeyes.surveys import at_odds, is_sound, is_survey

PLACES = {"a": (0, 0), "b": (4, 0), "c": (0, 5), "d": (7, 7), "m": (2, 2), "n": (3, 6), "o": (1, -4)}
TRUE = survey_of(PLACES, "a b c", "a-m b-m c-m a-n b-n d-m d-n d-o")


class Odds(unittest.TestCase):
    def check(self, survey, expected):
        self.assertEqual(at_odds(survey), expected, survey)
        self.assertEqual(plainly_odd(survey), expected, survey)
        self.assertIs(is_sound(survey), expected == [])

    def test_true_surveys(self):
        self.check(TRUE, [])
        self.check((TRUE[0], ()), [])
        for places, survey in random_surveys(21, 300):
            self.check(survey, [])

    def test_one_sight_turned(self):
        # Of three that see m, the first two tell where it is: so it is always c with whom this is at odds.
        self.check(turned(TRUE, "c", "m", (1, 0)), [("c", "m")])
        three = (TRUE[0], TRUE[1][:1] + tuple(row for row in TRUE[1] if row[:2] in (("b", "m"), ("c", "m"))))
        self.check(three, [])
        self.check(turned(three, "a", "m", (2, 1)), [("c", "m")])
        self.check(turned(three, "b", "m", (0, 1)), [("c", "m")])
        self.check(turned(three, "c", "m", (-2, 3)), [("c", "m")])

    def test_several_rising(self):
        survey = turned(turned(TRUE, "c", "m", (1, 0)), "a", "n", (1, 0))
        self.check(survey, [("c", "m")])
        knowns = tuple(sorted((name, PLACES[name]) for name in "abcdmn"))
        survey = (knowns, tuple((looker, mark, (0, -1)) for looker in "abcd" for mark in "mn"))
        self.check(survey, [(looker, mark) for looker in "abcd" for mark in "mn"])

    def test_a_mark_behind_the_looker_is_at_odds(self):
        survey = ((("a", (0, 0)), ("m", (3, 3))), (("a", "m", (1, 1)),))
        self.check(survey, [])
        self.check(turned(survey, "a", "m", (-1, -1)), [("a", "m")])
        self.check(turned(survey, "a", "m", (1, 2)), [("a", "m")])

    def test_a_known_mark_told_falsely(self):
        survey = survey_of(PLACES, "a b m", "a-m b-m")
        self.check(survey, [])
        self.check(turned(survey, "b", "m", (-1, 2)), [("b", "m")])
        false = (tuple(sorted([("a", (0, 0)), ("b", (4, 0)), ("m", (2, 3))])), survey[1])
        self.check(false, [("a", "m"), ("b", "m")])

    def test_what_is_not_found_is_not_at_odds(self):
        # The mark is seen by one alone; the looker sees one mark alone; neither is found.
        self.check(((("a", (0, 0)), ("b", (4, 0))), (("a", "m", (1, 1)),)), [])
        self.check(((("m", (2, 2)), ("n", (3, 3))), (("a", "m", (1, 1)),)), [])
        self.check(((("z", (2, 2)),), (("a", "m", (1, 1)), ("b", "m", (1, 0)))), [])
        # The rays of a and b to m do not meet.
        self.check(((("a", (0, 0)), ("b", (4, 0))), (("a", "m", (-1, 1)), ("b", "m", (1, 1)))), [])

    def test_looker_and_mark_at_one_point(self):
        self.check(((("a", (3, 3)), ("m", (3, 3))), (("a", "m", (1, 0)),)), [("a", "m")])
        knowns = (("a", (0, 0)), ("b", (4, 0)), ("c", (2, 2)))
        self.check((knowns, (("a", "m", (1, 1)), ("b", "m", (-1, 1)), ("c", "m", (0, 1)))), [("c", "m")])

    def test_against_plain_fractions(self):
        many = 0
        for places, survey in random_surveys(22, 300, falsely=1) + random_surveys(23, 300, falsely=4):
            self.check(survey, plainly_odd(survey))
            many += plainly_odd(survey) != []
        self.assertGreater(many, 100)

    def test_moved_turned_made_greater_and_called_otherwise(self):
        for places, survey in random_surveys(24, 100, falsely=3):
            elsewhere = (
                tuple(("x" + name, (-3 * y + 5, 3 * x - 8)) for name, (x, y) in survey[0]),
                tuple(("x" + looker, "x" + mark, (-dy, dx)) for looker, mark, (dx, dy) in survey[1]),
            )
            self.assertIs(is_survey(elsewhere), True)
            self.check(elsewhere, [("x" + looker, "x" + mark) for looker, mark in at_odds(survey)])

    def test_each_list_is_a_new_one(self):
        survey = turned(TRUE, "c", "m", (1, 0))
        before = copy.deepcopy(survey)
        first = at_odds(survey)
        first.append("more")
        self.assertEqual(at_odds(survey), [("c", "m")])
        self.assertIsNot(at_odds(survey), at_odds(survey))
        self.assertIs(is_sound(survey), False)
        self.assertEqual(survey, before)
        nothing = at_odds(TRUE)
        nothing.append("more")
        self.assertEqual(at_odds(TRUE), [])
        self.assertIs(is_sound(TRUE), True)

    def test_kinds_of_what_is_told(self):
        told = at_odds(turned(TRUE, "c", "m", (1, 0)))
        self.assertIs(type(told), list)
        self.assertEqual([type(row) for row in told], [tuple])


if __name__ == "__main__":
    unittest.main()
