"""Rigs: their places, what is told to them, and what they tell [17] [18] [3] [2]."""

import copy
import itertools
import random
import unittest
from fractions import Fraction

from helper import GREAT, all_kinds, nested, plainly_met, plainly_on, swapped_kinds, told, way, whole
from rigeyes.errors import NoLooker, NoMoment, NoName, NoPlaces, NoWay, RigError, Twice
from rigeyes.rigs import Rig

PLACES = (("ann", (0, 0), 0), ("bob", (4, 0), 10), ("cid", (0, 5), -3))
LETTERS = "abcdefghijklmnopqrstuvwxyz"
NO_NAMES = ("", "A", "Ann", "a b", "ann ", "a1", "abcdefghi", "\u00e9", "a\n", None, True, 1, ("ann",), ["ann"], (), [])
NO_WAYS = ((0, 0), (2, 2), (0, 2), (-3, 0), (201, 1), (1, -201), (1,), (1, 0, 0), [1, 0], (True, 0), (0, True), "ab",
           (1, None), None, 1, True, (), [], ((1, 0),), (GREAT, 1))
NO_MOMENTS = (-1, 10**6 + 1, GREAT, -GREAT, True, False, None, "1", "", (1,), [1], (), [])


def places(many):
    return tuple((name, (1, 2), 3) for name in LETTERS[:many])


def heard(rows, sights):
    rig = Rig(rows)
    for sight in sights:
        rig.tell(*sight)
    return rig


def plainly_told(rows, sights, mark):
    """(fixes, odd), by the words of point 18, with Fractions."""
    stands = {looker: (point, offset) for looker, point, offset in rows}
    by_moment = {}
    for looker, moment, seen, direction in sights:
        if seen == mark:
            by_moment.setdefault(moment + stands[looker][1], []).append((looker, direction))
    fixes, odd = [], []
    for moment in sorted(by_moment):
        seeing = sorted(by_moment[moment])
        points = [plainly_met(stands[one][0], there, stands[other][0], towards)
                  for (one, there), (other, towards) in itertools.combinations(seeing, 2)]
        points = [point for point in points if point is not None]
        if points:
            fixes.append((moment, told(*points[0])))
            odd += [(moment, looker) for looker, there in seeing
                    if not plainly_on([Fraction(part) for part in stands[looker][0]], there, points[0])]
    return fixes, odd


def random_rig(chance, spread, falsely):
    """(places, sights): marks that go about, and are seen truly but for so many sights."""
    names = sorted(chance.sample(LETTERS[:10], chance.randint(1, 6)))
    rows = tuple((name, (chance.randint(-spread, spread), chance.randint(-spread, spread)), chance.randint(-4, 4))
                 for name in names)
    sights = {}
    for mark in ("oak", "ox"):
        for moment in range(5, 8):
            point = (chance.randint(-spread, spread), chance.randint(-spread, spread))
            for looker, stand, offset in rows:
                if stand != point and chance.random() < 0.7:
                    sights[looker, moment - offset, mark] = way(stand, point)
    for sight in chance.sample(sorted(sights), min(falsely, len(sights))):
        sights[sight] = chance.choice(((1, 0), (0, 1), (-1, 1), (2, -1)))
    sights = [(*sight, direction) for sight, direction in sights.items()]
    chance.shuffle(sights)
    return rows, sights


class Places(unittest.TestCase):
    def yes(self, rows):
        rig = Rig(rows)
        self.assertEqual((len(rig), rig.marks()), (0, []))

    def no(self, rows):
        with self.assertRaises(NoPlaces) as caught:
            Rig(rows)
        self.assertIs(type(caught.exception), NoPlaces)

    def test_one_to_six_lookers(self):
        for many in range(10):
            (self.yes if 1 <= many <= 6 else self.no)(places(many))
        self.yes(PLACES)

    def test_a_looker_twice(self):
        self.no((("ann", (0, 0), 0), ("ann", (0, 0), 0)))
        self.no((("ann", (0, 0), 0), ("ann", (1, 0), 0)))
        self.no((("ann", (0, 0), 0), ("ann", (0, 0), 1)))
        self.no((("ann", (0, 0), 0), ("bob", (0, 0), 1), ("bob", (0, 0), 2)))
        self.yes((("ann", (0, 0), 0), ("bob", (0, 0), 0)))

    def test_places_that_do_not_rise(self):
        for rows in itertools.permutations(PLACES):
            (self.yes if rows == PLACES else self.no)(rows)
        self.yes((("a", (9, 9), 9), ("ab", (0, 0), 0), ("b", (-9, -9), -9)))
        self.no((("ab", (0, 0), 0), ("a", (9, 9), 9)))

    def test_how_far_points_may_be(self):
        for far in (-99, -98, 0, 98, 99):
            for point in ((far, 0), (0, far), (far, far)):
                self.yes((("ann", point, 0),))
        for far in (-101, -100, 100, 101, GREAT, -GREAT):
            for point in ((far, 0), (0, far), (far, far)):
                self.no((("ann", point, 0),))
                self.no((*PLACES, ("zoe", point, 0)))

    def test_offsets(self):
        for offset in (-1000, -999, 0, 1, 999, 1000):
            self.yes((("ann", (0, 0), offset),))
        for offset in (-1001, 1001, GREAT, -GREAT, True, False, None, "0", (0,), [0], (0, 1)):
            self.no((("ann", (0, 0), offset),))
            self.no((*PLACES, ("zoe", (0, 0), offset)))

    def test_names_that_are_none(self):
        for name in NO_NAMES:
            self.no(((name, (0, 0), 0),))
        for name in ("a", "z", "abcdefgh"):
            self.yes(((name, (0, 0), 0),))

    def test_points_that_are_none(self):
        for point in ((), (0,), (0, 0, 0), [0, 0], (True, 0), (0, False), (None, 0), ("0", 0), whole(0, 0), "ab", 0):
            self.no((("ann", point, 0),))

    def test_rows_of_another_length(self):
        for row in ((), ("ann",), ("ann", (0, 0)), ("ann", (0, 0), 0, 0), ("ann", 0, (0, 0)), ((0, 0), "ann", 0)):
            self.no((row,))
        self.no(PLACES[0])

    def test_parts_of_other_kinds(self):
        for rows in (PLACES, PLACES[:1], places(6)):
            for thing in swapped_kinds(rows):
                self.no(thing)

    def test_things_of_all_kinds(self):
        for thing in all_kinds():
            self.no(thing)
            self.no((thing,))
            self.no((*PLACES, thing))
        for kind, depth in itertools.product((list, tuple), (1, 26)):
            self.no(nested(PLACES, kind, depth))


class Tell(unittest.TestCase):
    def setUp(self):
        self.rig = heard(PLACES, [("ann", 10, "oak", (1, 1)), ("bob", 0, "oak", (-1, 1)), ("cid", 5, "elm", (1, 0))])
        self.before = heard(PLACES, [("ann", 10, "oak", (1, 1)), ("bob", 0, "oak", (-1, 1)), ("cid", 5, "elm", (1, 0))])

    def refused(self, error, *sight):
        """This error, and nothing is changed."""
        kept = copy.deepcopy(sight)
        for _ in range(2):
            with self.assertRaises(RigError) as caught:
                self.rig.tell(*sight)
            self.assertIs(type(caught.exception), error, sight)
        self.assertEqual(sight, kept)
        self.same()

    def same(self):
        self.assertEqual(self.rig, self.before)
        self.assertEqual(len(self.rig), 3)
        self.assertEqual(self.rig.marks(), ["elm", "oak"])
        self.assertEqual(self.rig.fixes("oak"), [(10, whole(2, 2))])
        self.assertEqual((self.rig.odd("oak"), self.rig.fixes("elm"), self.rig.odd("elm")), ([], [], []))

    def test_none_is_told(self):
        self.assertIsNone(self.rig.tell("ann", 11, "oak", (1, 1)))
        self.assertEqual(len(self.rig), 4)

    def test_no_looker(self):
        for looker in ("dan", "oak", "an", "annn", *NO_NAMES, *all_kinds()):
            self.refused(NoLooker, looker, 11, "oak", (1, 1))

    def test_no_moment(self):
        for moment in (*NO_MOMENTS, *[thing for thing in all_kinds() if type(thing) is not int]):
            self.refused(NoMoment, "ann", moment, "oak", (1, 1))

    def test_moments_at_the_limits(self):
        for moment in (0, 1, 999999, 10**6):
            for looker in ("ann", "bob", "cid"):
                self.rig.tell(looker, moment, "fir", (1, 1))
        self.assertEqual(len(self.rig), 15)

    def test_no_name(self):
        for mark in (*NO_NAMES, *[thing for thing in all_kinds() if thing not in ("a", "ab")]):
            self.refused(NoName, "ann", 11, mark, (1, 1))

    def test_any_name_is_a_mark(self):
        for mark in ("a", "zzzzzzzz", "ann", "bob", "oak"):
            self.rig.tell("ann", 11, mark, (1, 1))
        self.assertEqual(self.rig.marks(), ["a", "ann", "bob", "elm", "oak", "zzzzzzzz"])

    def test_no_way(self):
        for direction in (*NO_WAYS, *all_kinds()):
            self.refused(NoWay, "ann", 11, "oak", direction)

    def test_ways_at_the_limits(self):
        for moment, direction in enumerate(((200, 199), (-200, 1), (1, -200), (0, 1), (-1, 0))):
            self.rig.tell("ann", moment, "fir", direction)
        self.assertEqual(len(self.rig), 8)

    def test_twice(self):
        self.refused(Twice, "ann", 10, "oak", (1, 1))
        self.refused(Twice, "ann", 10, "oak", (1, 0))
        self.refused(Twice, "bob", 0, "oak", (-1, 1))
        self.refused(Twice, "cid", 5, "elm", (0, 1))

    def test_not_twice(self):
        # Another looker, moment or mark, though by clock and offset together the moment is another one's.
        for looker, moment, mark in (("ann", 11, "oak"), ("ann", 10, "elm"), ("bob", 10, "oak"), ("cid", 10, "oak"),
                                     ("cid", 13, "oak")):
            self.rig.tell(looker, moment, mark, (1, 1))
        self.assertEqual(len(self.rig), 8)

    def test_where_several_are_due_the_first_goes_first(self):
        wrong = [("dan", NoLooker), (-1, NoMoment), ("Oak", NoName), ((2, 2), NoWay)]
        right = ["ann", 10, "oak", (1, 1)]
        for picked in itertools.product((False, True), repeat=4):
            sight = [bad if pick else good for pick, (bad, error), good in zip(picked, wrong, right)]
            errors = [error for pick, (bad, error) in zip(picked, wrong) if pick] + [Twice]
            self.refused(errors[0], *sight)
        for thing in all_kinds():
            self.refused(NoLooker, thing, thing, thing, thing)
            self.refused(NoMoment, "ann", -1, thing, thing)
            self.refused(NoName, "ann", 10, "", thing)

    def test_what_was_refused_may_be_told_rightly(self):
        for sight in (("dan", 10, "fir", (1, 1)), ("ann", -1, "fir", (1, 1)), ("ann", 10, "Fir", (1, 1)),
                      ("ann", 10, "fir", (2, 2))):
            with self.assertRaises(RigError):
                self.rig.tell(*sight)
        self.assertEqual(self.rig.marks(), ["elm", "oak"])
        with self.assertRaises(NoName):
            self.rig.fixes("fir")
        self.rig.tell("ann", 10, "fir", (1, 1))
        self.assertEqual(self.rig.marks(), ["elm", "fir", "oak"])


class Told(unittest.TestCase):
    def check(self, rows, sights):
        """Against plain fractions: all that is told of the rig."""
        rig = heard(rows, sights)
        marks = sorted({sight[2] for sight in sights})
        self.assertEqual(rig.marks(), marks)
        self.assertEqual(len(rig), len(sights))
        for mark in marks:
            fixes, odd = plainly_told(rows, sights, mark)
            self.assertEqual(rig.fixes(mark), fixes, (rows, sights))
            self.assertEqual(rig.odd(mark), odd, (rows, sights))
        return rig

    def test_one_sight_is_no_fix(self):
        rig = self.check(PLACES, [("ann", 3, "oak", (1, 1))])
        self.assertEqual((rig.fixes("oak"), rig.odd("oak"), rig.marks(), len(rig)), ([], [], ["oak"], 1))

    def test_two_at_one_moment(self):
        # 13 by ann's clock is 3 by bob's, and 16 by cid's.
        rig = self.check(PLACES, [("ann", 13, "oak", (1, 1)), ("bob", 3, "oak", (-1, 1))])
        self.assertEqual((rig.fixes("oak"), rig.odd("oak")), ([(13, whole(2, 2))], []))
        rig = self.check(PLACES, [("cid", 16, "oak", (2, -3)), ("bob", 3, "oak", (-1, 1))])
        self.assertEqual((rig.fixes("oak"), rig.odd("oak")), ([(13, whole(2, 2))], []))

    def test_alike_by_clocks_is_not_at_one_moment(self):
        rig = self.check(PLACES, [("ann", 13, "oak", (1, 1)), ("bob", 13, "oak", (-1, 1))])
        self.assertEqual(rig.fixes("oak"), [])
        rig = self.check(PLACES, [("ann", 13, "oak", (1, 1)), ("bob", 4, "oak", (-1, 1))])
        self.assertEqual(rig.fixes("oak"), [])

    def test_moments_below_0(self):
        rows = (("ann", (0, 0), -1000), ("bob", (4, 0), -1000), ("cid", (0, 5), 1000))
        sights = [("ann", 0, "oak", (1, 1)), ("bob", 0, "oak", (-1, 1)), ("cid", 0, "oak", (1, 0))]
        rig = self.check(rows, sights + [("ann", 2000, "oak", (1, 1))])
        self.assertEqual(rig.fixes("oak"), [(-1000, whole(2, 2)), (1000, whole(5, 5))])
        rig = self.check(rows, [("ann", 10**6, "oak", (1, 1)), ("bob", 10**6, "oak", (-1, 1))])
        self.assertEqual(rig.fixes("oak"), [(999000, whole(2, 2))])

    def test_rising_by_moments(self):
        rows = tuple((name, point, -20) for name, point, offset in PLACES)
        sights = [(looker, moment, "oak", direction) for moment in (100, 9, 30, 19, 0, 21)
                  for looker, direction in (("bob", (-1, 1)), ("ann", (1, 1)), ("cid", (1, 0)))]
        rig = self.check(rows, sights)
        self.assertEqual([moment for moment, point in rig.fixes("oak")], [-20, -11, -1, 1, 10, 80])
        self.assertEqual(rig.odd("oak"), [(moment, "cid") for moment in (-20, -11, -1, 1, 10, 80)])

    def test_the_first_two_by_names(self):
        rows = (("a", (0, 0), 0), ("b", (4, 0), 0), ("c", (8, 0), 0))
        rig = self.check(rows, [("c", 5, "oak", (-1, 1)), ("b", 5, "oak", (-1, 1)), ("a", 5, "oak", (1, 1))])
        self.assertEqual((rig.fixes("oak"), rig.odd("oak")), ([(5, whole(2, 2))], [(5, "c")]))
        # a and b are parallel, so a and c it is.
        rig = self.check(rows, [("c", 5, "oak", (-1, 1)), ("b", 5, "oak", (1, 1)), ("a", 5, "oak", (1, 1))])
        self.assertEqual((rig.fixes("oak"), rig.odd("oak")), ([(5, whole(4, 4))], [(5, "b")]))
        # a looks away from both.
        rig = self.check(rows, [("c", 5, "oak", (-1, 1)), ("b", 5, "oak", (1, 1)), ("a", 5, "oak", (0, -1))])
        self.assertEqual((rig.fixes("oak"), rig.odd("oak")), ([(5, whole(6, 2))], [(5, "a")]))

    def test_no_fix_where_no_two_meet(self):
        rows = (("a", (0, 0), 0), ("b", (4, 0), 0), ("c", (8, 0), 0))
        rig = self.check(rows, [(looker, 5, "oak", (1, 1)) for looker in "abc"])
        self.assertEqual((rig.fixes("oak"), rig.odd("oak")), ([], []))
        rig = self.check(rows, [("a", 5, "oak", (1, 0)), ("b", 5, "oak", (-1, 0))])
        self.assertEqual((rig.fixes("oak"), rig.odd("oak")), ([], []))

    def test_several_at_odds(self):
        rows = places(6)
        spread = tuple((name, (3 * at, 0), 0) for at, (name, point, offset) in enumerate(rows))
        rig = self.check(spread, [(name, 1, "oak", (-1, 1) if name == "b" else (1, 1)) for name in "fedcba"])
        self.assertEqual(rig.fixes("oak"), [(1, ((3, 2), (3, 2)))])
        self.assertEqual(rig.odd("oak"), [(1, name) for name in "cdef"])

    def test_a_looker_that_stands_where_the_mark_is(self):
        rows = (("a", (0, 0), 0), ("b", (4, 0), 0), ("c", (2, 2), 0))
        rig = self.check(rows, [("a", 5, "oak", (1, 1)), ("b", 5, "oak", (-1, 1)), ("c", 5, "oak", (1, 0))])
        self.assertEqual((rig.fixes("oak"), rig.odd("oak")), ([(5, whole(2, 2))], [(5, "c")]))

    def test_marks_are_kept_apart(self):
        sights = [("ann", 13, "oak", (1, 1)), ("bob", 3, "elm", (-1, 1)), ("ann", 13, "elm", (1, 2)),
                  ("bob", 3, "fir", (-1, 1))]
        rig = self.check(PLACES, sights)
        self.assertEqual(rig.marks(), ["elm", "fir", "oak"])
        self.assertEqual((rig.fixes("oak"), rig.fixes("fir")), ([], []))
        self.assertEqual(rig.fixes("elm"), [(13, ((4, 3), (8, 3)))])

    def test_no_name_of_what_no_sight_told_of(self):
        rig = heard(PLACES, [("ann", 13, "oak", (1, 1)), ("bob", 3, "oak", (-1, 1))])
        for mark in ("elm", "ann", "bob", "oa", "oakk", "Oak", *NO_NAMES, *all_kinds()):
            for ask in (rig.fixes, rig.odd, Rig(PLACES).fixes, Rig(PLACES).odd):
                with self.assertRaises(NoName) as caught:
                    ask(mark)
                self.assertIs(type(caught.exception), NoName)
        for mark in ("oak", ["oak"], ("oak",)):
            with self.assertRaises(NoName):
                Rig(PLACES).fixes(mark)
        self.assertEqual((len(rig), rig.marks()), (2, ["oak"]))

    def test_against_plain_fractions(self):
        chance = random.Random(81)
        fixes, odd = 0, 0
        for turn in range(200):
            rig = self.check(*random_rig(chance, 3 if turn % 2 else 20, turn % 5))
            fixes += sum(len(rig.fixes(mark)) for mark in rig.marks())
            odd += sum(len(rig.odd(mark)) for mark in rig.marks())
        self.assertGreater(min(fixes, odd), 100)

    def test_kinds_of_what_is_told(self):
        rows = (("a", (0, 0), 0), ("b", (4, 0), 0), ("c", (8, 0), 0))
        rig = heard(rows, [("c", 5, "oak", (-1, 1)), ("b", 5, "oak", (-1, 1)), ("a", 5, "oak", (1, 1))])
        ((moment, point),) = rig.fixes("oak")
        self.assertEqual([type(moment), type(point), type(point[0]), type(point[0][0])], [int, tuple, tuple, int])
        self.assertEqual([type(row) for row in rig.fixes("oak") + rig.odd("oak")], [tuple, tuple])
        self.assertEqual([type(each) for each in (rig.fixes("oak"), rig.odd("oak"), rig.marks())], [list] * 3)
        self.assertEqual([type(each) for each in (rig.odd("oak")[0] + (len(rig), rig == rig))], [int, str, int, bool])

    def test_each_list_is_a_new_one(self):
        rows = (("a", (0, 0), 0), ("b", (4, 0), 0), ("c", (8, 0), 0))
        rig = heard(rows, [("c", 5, "oak", (-1, 1)), ("b", 5, "oak", (-1, 1)), ("a", 5, "oak", (1, 1))])
        like = heard(rows, [("c", 5, "oak", (-1, 1)), ("b", 5, "oak", (-1, 1)), ("a", 5, "oak", (1, 1))])
        for ask in (lambda: rig.fixes("oak"), lambda: rig.odd("oak"), rig.marks, Rig(rows).marks):
            first = ask()
            kept = list(first)
            first.append("more")
            first.reverse()
            self.assertEqual(ask(), kept)
            self.assertIsNot(ask(), ask())
        self.assertEqual(rig, like)

    def test_nothing_handed_in_is_changed(self):
        given = [PLACES, "ann", "oak", (1, 1)]
        before = copy.deepcopy(given)
        rig = Rig(given[0])
        rig.tell(given[1], 4, given[2], given[3])
        rig.fixes(given[2])
        rig.odd(given[2])
        self.assertEqual(given, before)
        for thing in ([["ann", [0, 0], 0]], [[[]]]):
            kept = copy.deepcopy(thing)
            for ask in (Rig, rig.fixes, rig.odd, lambda each: rig.tell(each, each, each, each)):
                with self.assertRaises(RigError):
                    ask(thing)
                self.assertEqual(thing, kept)

    def test_two_rigs_share_nothing(self):
        one, other = Rig(PLACES), Rig(PLACES)
        one.tell("ann", 4, "oak", (1, 1))
        self.assertEqual((len(one), len(other), other.marks()), (1, 0, []))


class Equal(unittest.TestCase):
    SIGHTS = (("ann", 13, "oak", (1, 1)), ("bob", 3, "oak", (-1, 1)), ("cid", 16, "oak", (1, 0)),
              ("ann", 0, "elm", (0, 1)))

    def alike(self, one, other):
        self.assertIs(one == other, True)
        self.assertIs(other == one, True)
        self.assertIs(one != other, False)

    def unlike(self, one, other):
        self.assertIs(one == other, False)
        self.assertIs(other == one, False)
        self.assertIs(one != other, True)

    def test_in_whatever_order(self):
        one = heard(PLACES, self.SIGHTS)
        self.alike(one, one)
        for sights in itertools.permutations(self.SIGHTS):
            other = heard(PLACES, sights)
            self.alike(one, other)
            self.assertEqual((one.fixes("oak"), one.odd("oak"), one.marks()),
                             (other.fixes("oak"), other.odd("oak"), other.marks()))
        self.alike(Rig(PLACES), Rig(copy.deepcopy(PLACES)))

    def test_another_looker_point_or_offset(self):
        for rows in (PLACES[:2], PLACES + (("dan", (1, 1), 0),), PLACES[:2] + (("cyd", (0, 5), -3),),
                     PLACES[:2] + (("cid", (0, 6), -3),), PLACES[:2] + (("cid", (1, 5), -3),),
                     PLACES[:2] + (("cid", (0, 5), -2),)):
            self.unlike(Rig(PLACES), Rig(rows))
            self.unlike(heard(PLACES, self.SIGHTS[:2]), heard(rows, self.SIGHTS[:2]))
        # Seen at the same moment, but by clocks that are otherwise.
        rows = PLACES[:2] + (("cid", (0, 5), -2),)
        self.unlike(heard(PLACES, [("cid", 16, "oak", (1, 0))]), heard(rows, [("cid", 15, "oak", (1, 0))]))

    def test_another_sight(self):
        one = heard(PLACES, self.SIGHTS)
        for at in range(4):
            self.unlike(one, heard(PLACES, self.SIGHTS[:at] + self.SIGHTS[at + 1:]))
        for last in (("ann", 0, "elm", (0, -1)), ("ann", 1, "elm", (0, 1)), ("ann", 0, "fir", (0, 1)),
                     ("bob", 0, "elm", (0, 1))):
            self.unlike(one, heard(PLACES, (*self.SIGHTS[:3], last)))
        self.unlike(one, heard(PLACES, (*self.SIGHTS, ("bob", 0, "elm", (0, 1)))))
        self.unlike(one, Rig(PLACES))

    def test_to_what_is_no_rig(self):
        for rig in (Rig(PLACES), heard(PLACES, self.SIGHTS)):
            for thing in (*all_kinds(), PLACES, self.SIGHTS, Rig, {}, object()):
                self.unlike(rig, thing)

    def test_equal_again_once_told_alike(self):
        one, other = Rig(PLACES), Rig(PLACES)
        for sight, back in zip(self.SIGHTS, self.SIGHTS[::-1]):
            one.tell(*sight)
            other.tell(*back)
        self.alike(one, other)
        self.assertEqual((len(one), len(other)), (4, 4))

    def test_what_is_refused_leaves_them_equal(self):
        one, other = heard(PLACES, self.SIGHTS), heard(PLACES, self.SIGHTS)
        with self.assertRaises(Twice):
            one.tell("ann", 13, "oak", (1, 2))
        self.alike(one, other)

    def test_methods_stand_in_the_class_itself(self):
        for name in ("__init__", "tell", "fixes", "odd", "marks", "__len__", "__eq__"):
            self.assertIn(name, vars(Rig))


if __name__ == "__main__":
    unittest.main()
