"""What a survey is [6] [2]."""

import copy
import unittest

from helper import GREAT, all_kinds, nested, random_surveys, survey_of, swapped_kinds
from rigeyes.surveys import is_survey

PLACES = {"a": (0, 0), "b": (4, 0), "c": (0, 5), "m": (2, 2), "n": (3, 7), "o": (-4, -6)}
PLAIN = survey_of(PLACES, "a b", "a-m b-m c-m c-n a-n")
SIGHTS = PLAIN[1]
KNOWNS = PLAIN[0]
LETTERS = "abcdefghijklmnopqrstuvwxyz"


def knowns(many):
    return tuple((name, (1, 2)) for name in LETTERS[:many])


def sights(lookers, marks):
    return tuple((looker, mark, (1, 0)) for looker in lookers for mark in marks)


class IsSurvey(unittest.TestCase):
    def yes(self, thing):
        self.assertIs(is_survey(thing), True, thing)

    def no(self, thing):
        self.assertIs(is_survey(thing), False, thing)

    def test_surveys(self):
        self.yes(PLAIN)
        self.yes((KNOWNS, ()))
        self.yes(((("a", (0, 0)),), ()))
        self.yes(((("a", (0, 0)),), (("a", "b", (1, 0)),)))
        self.yes(((("x", (0, 0)), ("y", (0, 0))), (("a", "b", (1, 0)),)))
        for places, survey in random_surveys(1, 200) + random_surveys(2, 200, falsely=3):
            self.yes(survey)

    def test_one_to_six_knowns(self):
        for many in range(10):
            self.assertIs(is_survey((knowns(many), SIGHTS)), 1 <= many <= 6, many)
            self.assertIs(is_survey((knowns(many), ())), 1 <= many <= 6, many)

    def test_how_far_knowns_may_be(self):
        for far in (-99, -98, 0, 98, 99):
            self.yes(((("a", (far, 0)),), SIGHTS))
            self.yes(((("a", (0, far)),), SIGHTS))
            self.yes(((("a", (far, far)),), SIGHTS))
        for far in (-100, 100, 101, -GREAT, GREAT):
            self.no(((("a", (far, 0)),), SIGHTS))
            self.no(((("a", (0, far)),), SIGHTS))
            self.no(((("a", (0, 0)), ("b", (far, far))), SIGHTS))

    def test_knowns_rise(self):
        self.yes(((("a", (5, 5)), ("ab", (3, 3)), ("b", (1, 1))), SIGHTS))
        self.no(((("b", (1, 1)), ("a", (5, 5))), SIGHTS))
        self.no(((("a", (1, 1)), ("b", (1, 1)), ("ab", (3, 3))), SIGHTS))
        self.no(((("b", (1, 1)), ("a", (1, 1)), ("c", (3, 3))), SIGHTS))

    def test_no_known_name_twice(self):
        self.no(((("a", (1, 1)), ("a", (1, 1))), SIGHTS))
        self.no(((("a", (1, 1)), ("a", (1, 2))), SIGHTS))
        self.no(((("a", (1, 1)), ("b", (1, 2)), ("b", (2, 2))), SIGHTS))

    def test_knowns_may_stand_at_one_place(self):
        self.yes(((("a", (1, 1)), ("b", (1, 1))), SIGHTS))

    def test_knowns_may_be_lookers_marks_or_neither(self):
        for name in "amz":
            self.yes((((name, (1, 1)),), SIGHTS))

    def test_at_most_sixteen_sights(self):
        four = sights("abcd", "mnop")
        self.assertEqual(len(four), 16)
        self.yes((KNOWNS, four))
        self.yes((KNOWNS, four[1:]))
        self.yes((KNOWNS, tuple(sorted(sights("abcd", "mnop")[:15] + (("e", "q", (0, 1)),)))))
        self.no((KNOWNS, tuple(sorted(four + (("e", "m", (0, 1)),)))))
        self.no((KNOWNS, sights("abcde", "mnop")))
        self.no((KNOWNS, sights("abcde", "mnopq")))

    def test_at_most_five_lookers_and_five_marks(self):
        self.yes((KNOWNS, sights("abcde", "m")))
        self.yes((KNOWNS, sights("abcde", "mno")))
        self.no((KNOWNS, sights("abcdef", "m")))
        self.no((KNOWNS, sights("abcdefg", "mn")))
        self.yes((KNOWNS, sights("a", "mnopq")))
        self.yes((KNOWNS, sights("abc", "mnopq")))
        self.no((KNOWNS, sights("a", "mnopqr")))
        self.no((KNOWNS, sights("ab", "mnopqrs")))

    def test_no_looker_and_mark_twice(self):
        self.yes((KNOWNS, (("a", "m", (1, 0)), ("a", "n", (1, 0)), ("b", "m", (1, 0)))))
        self.no((KNOWNS, (("a", "m", (0, 1)), ("a", "m", (1, 0)))))
        self.no((KNOWNS, (("a", "m", (1, 0)), ("a", "m", (1, 0)))))
        self.no((KNOWNS, (("a", "m", (0, 1)), ("a", "m", (1, 0)), ("b", "m", (1, 0)))))

    def test_no_name_both_a_looker_and_a_mark(self):
        self.no((KNOWNS, (("a", "a", (1, 0)),)))
        self.no((KNOWNS, (("a", "b", (1, 0)), ("b", "a", (-1, 0)))))
        self.no((KNOWNS, (("a", "b", (1, 0)), ("b", "c", (-1, 0)))))
        self.no((KNOWNS, (("a", "c", (1, 0)), ("b", "a", (-1, 0)))))

    def test_sights_rise(self):
        for at in range(len(SIGHTS) - 1):
            swapped = SIGHTS[:at] + (SIGHTS[at + 1], SIGHTS[at]) + SIGHTS[at + 2:]
            self.no((KNOWNS, swapped))
        self.no((KNOWNS, SIGHTS[::-1]))
        self.yes((KNOWNS, (("a", "m", (5, 1)), ("a", "n", (1, 0)))))
        self.no((KNOWNS, (("a", "n", (1, 0)), ("a", "m", (5, 1)))))

    def test_names(self):
        for name in ("abcdefgh", "zzzzzzzz", "q"):
            self.yes((((name, (0, 0)),), ()))
            self.yes((KNOWNS, ((name, "mark", (1, 0)),)))
            self.yes((KNOWNS, (("looker", name, (1, 0)),)))
        for name in ("", "abcdefghi", "A", "aB", "a1", "1", "a b", " ", "a_", "-", "\u00e9", "\u0430", "\uff41", "a\n"):
            self.no((((name, (0, 0)),), ()))
            self.no((KNOWNS, ((name, "mark", (1, 0)),)))
            self.no((KNOWNS, (("looker", name, (1, 0)),)))

    def test_directions(self):
        for far in ((200, 199), (-200, 1), (0, -1)):
            self.yes((KNOWNS, (("a", "m", far),)))
        for none in ((0, 0), (2, 0), (2, 4), (201, 1), (1, -201), (1,), (), (1, 0, 0), (1, True), (True, 0), (None, 1)):
            self.no((KNOWNS, (("a", "m", none),)))

    def test_other_lengths(self):
        self.no(())
        self.no((KNOWNS,))
        self.no((KNOWNS, SIGHTS, ()))
        self.no((SIGHTS, KNOWNS))
        self.no(((("a",),), SIGHTS))
        self.no(((("a", (0, 0), 1),), SIGHTS))
        self.no(((("a", (0,)),), SIGHTS))
        self.no(((("a", (0, 0, 0)),), SIGHTS))
        self.no(((("a", 0, 0),), SIGHTS))
        self.no((KNOWNS, (("a", "m"),)))
        self.no((KNOWNS, (("a", "m", (1, 0), 1),)))
        self.no((KNOWNS, (("a", "m", 1, 0),)))

    def test_parts_of_other_kinds(self):
        for thing in swapped_kinds(PLAIN):
            self.no(thing)
        for thing in swapped_kinds(((("a", (0, 1)),), (("a", "m", (1, 0)),))):
            self.no(thing)

    def test_truths_are_no_numbers(self):
        for truth in (True, False):
            self.no(((("a", (truth, 0)),), SIGHTS))
            self.no(((("a", (1, truth)),), SIGHTS))

    def test_things_of_all_kinds(self):
        for thing in all_kinds():
            self.no(thing)
            self.no((thing, SIGHTS))
            self.assertIs(is_survey((KNOWNS, (thing,))), thing == ("a", "b", (1, 0)), thing)
            self.no((((thing, (0, 0)),), (("a", "m", thing),)))
            self.assertIs(is_survey((KNOWNS, thing)), thing == () and isinstance(thing, tuple), thing)

    def test_things_within_one_another(self):
        for kind in (list, tuple):
            self.no(nested(PLAIN, kind, 1))
            self.no(nested(PLAIN, kind, 25))
            self.no((nested(KNOWNS, kind, 20), SIGHTS))
            self.no((KNOWNS, nested(SIGHTS, kind, 20)))

    def test_nothing_is_changed_and_it_is_answered_the_same_again(self):
        for thing in (PLAIN, [list(KNOWNS), list(SIGHTS)], ([["a", [0, 0]]], [["a", "m", [1, 0]]]), (KNOWNS, [[]])):
            before = copy.deepcopy(thing)
            first = is_survey(thing)
            self.assertIs(is_survey(thing), first)
            self.assertEqual(thing, before)


if __name__ == "__main__":
    unittest.main()
