"""The fewest lookers that were moved, and the paper that no fewer are [9] [3] [2]."""

import copy
import itertools
import unittest

from helper import GREAT, all_kinds, nested, plainly_odd, random_surveys, survey_of, swapped_kinds, turned
from rigeyes.blame import fewest_moved, is_moved_paper, moved_paper
from rigeyes.surveys import is_survey

PLACES = {"a": (0, 0), "b": (9, 0), "c": (0, 9), "d": (9, 8), "e": (4, -3), "m": (2, 3), "n": (5, 6), "o": (3, 1)}
SOUND = survey_of(PLACES, "a b c d e", "a-m b-m c-m d-m e-m a-n b-n c-n d-n e-n")
ONE = turned(turned(SOUND, "b", "m", (-5, 1)), "b", "n", (-5, 7))
TWO = turned(turned(ONE, "d", "m", (-5, -1)), "d", "n", (-1, -1))
NOBODY = ((("a", (0, 0)),), ())


def without(survey, lot):
    return (survey[0], tuple(row for row in survey[1] if row[0] not in lot))


def all_lots(survey, below):
    """All lots of fewer lookers, the smaller ones ahead, of as few in order."""
    lookers = sorted({row[0] for row in survey[1]})
    return [lot for many in range(min(below, len(lookers) + 1)) for lot in itertools.combinations(lookers, many)]


def plainly_fewest(survey):
    return [lot for lot in all_lots(survey, 99) if not plainly_odd(without(survey, lot))][0]


def plainly_papers(survey, many):
    """All papers, as tuples of rows, each row being one of several."""
    choices = [[(lot, sight) for sight in plainly_odd(without(survey, lot))] for lot in sorted(all_lots(survey, many))]
    return list(itertools.islice(itertools.product(*choices), 50))


class Fewest(unittest.TestCase):
    def test_none_of_a_sound_survey(self):
        for survey in (SOUND, NOBODY, (SOUND[0], SOUND[1][:1])):
            self.assertEqual(fewest_moved(survey), ())
            self.assertEqual(moved_paper(survey), ())
            self.assertIs(is_moved_paper(survey, 0, ()), True)

    def test_one_looker_turned(self):
        self.assertEqual(fewest_moved(ONE), ("b",))
        for looker in "acde":
            self.assertNotEqual(plainly_odd(without(ONE, (looker,))), [])

    def test_two_lookers_turned(self):
        self.assertEqual(plainly_fewest(TWO), fewest_moved(TWO))
        self.assertEqual(fewest_moved(TWO), ("b", "d"))
        self.assertEqual(len(moved_paper(TWO)), 6)

    def test_of_as_few_the_first(self):
        # Without any one of the three, two are left that are of one mind.
        survey = turned(survey_of(PLACES, "a b c", "a-m b-m c-m"), "c", "m", (1, -1))
        for looker in "abc":
            self.assertEqual(plainly_odd(without(survey, looker)), [])
        self.assertEqual(fewest_moved(survey), ("a",))
        knowns = tuple((name, PLACES[name]) for name in "abcdm")
        # a sees it truly, whoever else does not: without a alone nothing is won.
        survey = (knowns, (("a", "m", (2, 3)), ("b", "m", (1, 0)), ("c", "m", (1, 0)), ("d", "m", (0, 1))))
        self.assertEqual(fewest_moved(survey), ("b", "c", "d"))

    def test_few_ahead_of_first(self):
        # ("a", "b") comes ahead of ("b",), but is more.
        knowns = tuple((name, PLACES[name]) for name in "abm")
        survey = (knowns, (("a", "m", (2, 3)), ("b", "m", (1, 0))))
        self.assertEqual(plainly_odd(without(survey, ("a", "b"))), [])
        self.assertEqual(fewest_moved(survey), ("b",))

    def test_all_of_them(self):
        knowns = tuple((name, PLACES[name]) for name in "abcdem")
        survey = (knowns, tuple((looker, "m", (-200, -199)) for looker in "abcde"))
        self.assertEqual(fewest_moved(survey), tuple("abcde"))
        paper = moved_paper(survey)
        self.assertEqual(len(paper), 31)
        # Rising as in Python: ("a", "b") comes ahead of ("b",).
        self.assertEqual([lot for lot, sight in paper], sorted(all_lots(survey, 5)))
        self.assertIs(is_moved_paper(survey, 5, paper), True)
        self.assertIs(is_moved_paper(survey, 5, tuple(sorted(paper, key=lambda row: len(row[0])))), False)
        self.assertIs(is_moved_paper(survey, 5, paper[::-1]), False)

    def test_against_plain_fractions(self):
        seen = set()
        for places, survey in random_surveys(31, 80, falsely=2) + random_surveys(32, 120, 3, falsely=5):
            lot = fewest_moved(survey)
            self.assertIs(type(lot), tuple)
            self.assertEqual(lot, plainly_fewest(survey), survey)
            seen.add(len(lot))
            paper = moved_paper(survey)
            self.assertIs(is_moved_paper(survey, len(lot), paper), True)
            self.assertEqual([row[0] for row in paper], sorted(all_lots(survey, len(lot))))
            for row in paper:
                self.assertEqual((type(row), type(row[0]), type(row[1])), (tuple, tuple, tuple))
                self.assertIn(row[1], plainly_odd(without(survey, row[0])))
        self.assertLessEqual({0, 1, 2}, seen)

    def test_true_surveys_blame_none(self):
        for places, survey in random_surveys(33, 100):
            self.assertEqual((fewest_moved(survey), moved_paper(survey)), ((), ()))

    def test_moved_turned_made_greater_and_called_otherwise(self):
        for places, survey in random_surveys(34, 60, falsely=4):
            elsewhere = (
                tuple(("x" + name, (-3 * y + 5, 3 * x - 8)) for name, (x, y) in survey[0]),
                tuple(("x" + looker, "x" + mark, (-dy, dx)) for looker, mark, (dx, dy) in survey[1]),
            )
            self.assertEqual(fewest_moved(elsewhere), tuple("x" + looker for looker in fewest_moved(survey)))
            expected = tuple((tuple("x" + each for each in lot), ("x" + looker, "x" + mark))
                             for lot, (looker, mark) in moved_paper(survey))
            self.assertEqual(moved_paper(elsewhere), expected)
            self.assertIs(is_moved_paper(elsewhere, len(fewest_moved(survey)), expected), True)

    def test_somewhat_beyond_the_limits(self):
        places = dict(PLACES, f=(120, 5), g=(-140, 33))
        pairs = "a-m b-m c-m d-m e-m f-m g-m a-n b-n c-n d-n e-n f-n g-n a-o b-o g-o f-o"
        survey = survey_of(places, "a b c d e f g", pairs)
        self.assertIs(is_survey(survey), False)
        self.assertEqual(fewest_moved(survey), ())
        survey = turned(turned(survey, "f", "m", (0, 1)), "g", "n", (0, 1))
        self.assertEqual(fewest_moved(survey), plainly_fewest(survey))
        self.assertEqual(fewest_moved(survey), ("f", "g"))
        self.assertIs(is_moved_paper(survey, 2, moved_paper(survey)), True)

    def test_told_the_same_again_and_nothing_changed(self):
        before = copy.deepcopy(TWO)
        self.assertEqual(fewest_moved(TWO), fewest_moved(TWO))
        paper = moved_paper(TWO)
        self.assertEqual(moved_paper(TWO), paper)
        thing = [list(paper), [[["a"]]]]
        kept = copy.deepcopy(thing)
        for each in (thing, thing[0], thing[1], paper):
            first = is_moved_paper(TWO, 2, each)
            self.assertIs(is_moved_paper(TWO, 2, each), first)
        self.assertEqual(thing, kept)
        self.assertEqual(TWO, before)


class Paper(unittest.TestCase):
    def yes(self, survey, many, thing):
        self.assertIs(is_moved_paper(survey, many, thing), True, (many, thing))

    def no(self, survey, many, thing):
        self.assertIs(is_moved_paper(survey, many, thing), False, (many, thing))

    def test_the_paper_of_none(self):
        for survey in (SOUND, ONE, TWO, NOBODY):
            self.yes(survey, 0, ())
            self.no(survey, 1, ())
            self.no(survey, 0, ((),))
            self.no(survey, 0, [])
            self.no(survey, 0, (((), ("b", "m")),))

    def test_a_row_of_any_sight_that_is_at_odds(self):
        self.assertEqual(plainly_odd(ONE), [("c", "m"), ("c", "n"), ("d", "m"), ("d", "n"), ("e", "m"), ("e", "n")])
        for looker, mark in itertools.product("abcdez", "mnoz"):
            row = ((), (looker, mark))
            self.assertIs(is_moved_paper(ONE, 1, (row,)), (looker, mark) in plainly_odd(ONE))

    def test_for_fewer_and_for_more_than_told(self):
        paper = moved_paper(TWO)
        self.yes(TWO, 2, paper)
        self.no(TWO, 1, paper)
        self.no(TWO, 0, paper)
        self.no(TWO, 3, paper)
        self.yes(TWO, 1, paper[:1])
        self.no(TWO, 2, paper[:1])
        self.yes(TWO, 0, ())

    def test_for_more_than_there_are_lookers(self):
        for survey in (SOUND, ONE, TWO, NOBODY):
            for many in (5, 6, 7, 100, GREAT):
                self.no(survey, many, moved_paper(survey))
                self.no(survey, many, ())
        self.no(NOBODY, 1, ())
        self.no(NOBODY, 1, (((), ("a", "m")),))
        knowns = tuple((name, PLACES[name]) for name in "abm")
        survey = (knowns, (("a", "m", (0, 1)), ("b", "m", (1, 0))))
        paper = (((), ("a", "m")), (("a",), ("b", "m")), (("b",), ("a", "m")))
        self.yes(survey, 2, paper)
        full = (paper[0], paper[1], (("a", "b"), ("b", "m")), paper[2])
        for many in (2, 3, 4, GREAT):
            self.no(survey, many, full)
        self.no(survey, 3, paper)

    def test_rows_left_out_twice_and_exchanged(self):
        paper = moved_paper(TWO)
        for at in range(len(paper)):
            self.no(TWO, 2, paper[:at] + paper[at + 1:])
            self.no(TWO, 2, paper[:at] + (paper[at],) + paper[at:])
            for other in range(len(paper)):
                if other != at:
                    rows = list(paper)
                    rows[at], rows[other] = rows[other], rows[at]
                    self.no(TWO, 2, tuple(rows))
                    rows = list(paper)
                    rows[at] = rows[other]
                    self.no(TWO, 2, tuple(rows))

    def test_another_sight_in_a_rows_place(self):
        paper = moved_paper(TWO)
        sights = [row[:2] for row in TWO[1]] + [("z", "m"), ("a", "z"), ("m", "a")]
        some, none = 0, 0
        for at, (lot, sight) in enumerate(paper):
            odd = plainly_odd(without(TWO, lot))
            for other in sights:
                thing = paper[:at] + ((lot, other),) + paper[at + 1:]
                self.assertIs(is_moved_paper(TWO, 2, thing), other in odd, (lot, other))
                some += other in odd
                none += other not in odd
        self.assertGreater(some, 6)
        self.assertGreater(none, 6)

    def test_a_sight_of_a_looker_of_the_lot(self):
        # Among all sights ("c", "n") is at odds; without those of c it is no more.
        paper = moved_paper(TWO)
        at = [row[0] for row in paper].index(("c",))
        self.assertIn(("c", "n"), plainly_odd(TWO))
        self.no(TWO, 2, paper[:at] + ((("c",), ("c", "n")),) + paper[at + 1:])

    def test_lots_of_other_lookers(self):
        paper = moved_paper(TWO)
        for at, (lot, sight) in enumerate(paper):
            for other in ((), ("a",), ("b",), ("z",), ("m",), ("a", "b"), ("b", "a"), ("a", "a"), "a", "", ["a"], None):
                if other != lot:
                    self.no(TWO, 2, paper[:at] + ((other, sight),) + paper[at + 1:])

    def test_every_choice_of_sights(self):
        for places, survey in random_surveys(35, 60, 3, falsely=4):
            for many in range(4):
                for paper in plainly_papers(survey, many):
                    self.yes(survey, many, paper)
                    self.yes(survey, many, tuple(sorted(paper)))
                    if len(paper) > 1:
                        self.no(survey, many, paper[::-1])

    def test_no_paper_where_fewer_are_to_blame(self):
        for many in (2, 3):
            self.assertEqual(plainly_papers(ONE, many), [])
        rows = [(lot, (plainly_odd(without(ONE, lot)) or [("c", "m")])[0]) for lot in all_lots(ONE, 2)]
        self.no(ONE, 2, tuple(sorted(rows)))

    def test_parts_of_other_kinds(self):
        for survey, many in ((ONE, 1), (TWO, 2)):
            for thing in swapped_kinds(moved_paper(survey)):
                self.no(survey, many, thing)

    def test_things_of_all_kinds(self):
        for survey, many in itertools.product((SOUND, ONE, TWO), (0, 1, 2, 6)):
            for thing in all_kinds():
                empty = isinstance(thing, tuple) and thing == () and many == 0
                self.assertIs(is_moved_paper(survey, many, thing), empty, (many, thing))
                self.no(survey, many, (thing,))
                if thing != ():
                    self.no(survey, many, ((thing, ("c", "m")),))
                self.no(survey, many, (((), thing),))
                self.no(survey, many, (((), ("c", thing)),))
                self.no(survey, many, (thing,) * 6)
        for kind in (list, tuple):
            self.no(TWO, 2, nested(moved_paper(TWO), kind, 26))


if __name__ == "__main__":
    unittest.main()
