"""Flashes, the offsets of clocks, and rings that can't be [10] [11] [12] [3] [2]."""

import copy
import itertools
import random
import unittest

from helper import GREAT, all_kinds, nested, swapped_kinds
from rigeyes.clocks import are_flashes, is_ring, offsets, ring

LETTERS = "abcdefghijklmnopqrstuvwxyz"
PLAIN = (("f", "a", 3, 5), ("f", "b", 10, 10), ("g", "b", 2, 4), ("g", "c", 7, 9), ("h", "d", 0, 1))
# By f, b is just 5 behind a; by g, just 4.
TWO = (("f", "a", 0, 0), ("f", "b", 5, 5), ("g", "a", 10, 10), ("g", "b", 14, 14))
THREE = (("f", "a", 0, 0), ("f", "b", 5, 5), ("g", "b", 0, 0), ("g", "c", 5, 5), ("h", "a", 0, 0), ("h", "c", 9, 9))


def lookers_of(flashes):
    return sorted({row[1] for row in flashes})


def joined_lots(flashes):
    """Lists of lookers that are joined, each rising."""
    lots = [{looker} for looker in lookers_of(flashes)]
    for flash in {row[0] for row in flashes}:
        both = {row[1] for row in flashes if row[0] == flash}
        together = set().union(*[lot for lot in lots if lot & both])
        lots = [lot for lot in lots if not lot & both] + [together]
    return [sorted(lot) for lot in lots]


def can_be(flashes, offset):
    """Whether, with these offsets, each flash has a moment for all who saw it."""
    for flash in {row[0] for row in flashes}:
        rows = [row for row in flashes if row[0] == flash and row[1] in offset]
        if rows and max(row[2] + offset[row[1]] for row in rows) > min(row[3] + offset[row[1]] for row in rows):
            return False
    return True


def plainly_offsets(flashes, reach):
    """By trying all offsets up to reach from the one joined looker to another."""
    told = []
    for lot in joined_lots(flashes):
        far = reach * (len(lot) - 1)
        tried = [dict(zip(lot, (0, *rest))) for rest in itertools.product(range(-far, far + 1), repeat=len(lot) - 1)]
        good = [offset for offset in tried if can_be(flashes, offset)]
        if not good:
            return None
        for looker in lot:
            values = {offset[looker] for offset in good}
            assert values == set(range(min(values), max(values) + 1))
            told.append((looker, lot[0], min(values), max(values)))
    return sorted(told)


def plainly_rings(flashes):
    """All rings that show that clocks can't be joined."""
    early = {row[:2]: row[2] for row in flashes}
    late = {row[:2]: row[3] for row in flashes}
    names = sorted({row[0] for row in flashes})
    rings = []
    for many in range(2, len(lookers_of(flashes)) + 1):
        for ones in itertools.permutations(lookers_of(flashes), many):
            steps = list(zip(ones, ones[1:] + ones[:1]))
            choices = [[(one, other, flash) for flash in names if (flash, one) in late and (flash, other) in late]
                       for one, other in steps]
            for found in itertools.product(*choices):
                if sum(late[flash, other] - early[flash, one] for one, other, flash in found) < 0:
                    rings.append(list(found))
    return rings


def random_flashes(chance, lookers, flashes, reach):
    rows = []
    for flash, looker in itertools.product(flashes, lookers):
        if chance.random() < 0.6:
            rows.append((flash, looker, *sorted(chance.choices(range(reach + 1), k=2))))
    return tuple(rows)


def flashes_of_two(chance, lookers, flashes, reach, blur):
    """Each flash is seen by two lookers, so rings of many are needed."""
    rows = []
    for flash, looker in [(flash, looker) for flash in flashes for looker in chance.sample(lookers, 2)]:
        early = chance.randint(0, reach)
        rows.append((flash, looker, early, early + chance.randint(0, blur)))
    return tuple(sorted(rows))


class AreFlashes(unittest.TestCase):
    def yes(self, thing):
        self.assertIs(are_flashes(thing), True, thing)

    def no(self, thing):
        self.assertIs(are_flashes(thing), False, thing)

    def test_flashes(self):
        for thing in ((), PLAIN, TWO, THREE, PLAIN[:1], (("a", "a", 0, 0), ("a", "b", 0, 0), ("b", "a", 0, 0))):
            self.yes(thing)

    def test_at_most_twenty_four_rows(self):
        for many in (23, 24, 25, 26):
            self.assertIs(are_flashes(tuple(("f", looker, 0, 1) for looker in LETTERS[:many])), many <= 24)
            self.assertIs(are_flashes(tuple((flash, "a", 0, 1) for flash in LETTERS[:many])), many <= 24)

    def test_from_nought_to_a_million(self):
        for early, late in ((0, 0), (0, 10**6), (10**6, 10**6), (999999, 10**6), (0, 1)):
            self.yes((("f", "a", early, late),))
        for early, late in ((-1, 0), (-1, -1), (0, 10**6 + 1), (10**6 + 1, 10**6 + 1), (0, GREAT), (-GREAT, 5)):
            self.no((("f", "a", early, late),))

    def test_early_no_later_than_late(self):
        self.yes((("f", "a", 7, 7),))
        self.yes((("f", "a", 7, 8),))
        self.no((("f", "a", 8, 7),))
        self.no((("f", "a", 10**6, 0),))
        self.no((("f", "a", 7, 8), ("f", "b", 8, 7)))

    def test_no_flash_and_looker_twice(self):
        self.no((("f", "a", 1, 2), ("f", "a", 1, 2)))
        self.no((("f", "a", 1, 2), ("f", "a", 1, 3)))
        self.no((("f", "a", 1, 2), ("f", "a", 2, 2), ("f", "b", 1, 2)))
        self.yes((("f", "a", 1, 2), ("f", "b", 1, 2), ("g", "a", 1, 2), ("g", "b", 1, 2)))

    def test_rows_rise(self):
        self.no(PLAIN[::-1])
        for at in range(len(PLAIN) - 1):
            self.no(PLAIN[:at] + (PLAIN[at + 1], PLAIN[at]) + PLAIN[at + 2:])
        self.yes((("f", "a", 9, 9), ("f", "b", 1, 1)))
        self.no((("g", "a", 1, 1), ("f", "b", 9, 9)))

    def test_names(self):
        for name in ("a", "z", "abcdefgh"):
            self.yes(((name, "a", 0, 1),))
            self.yes((("f", name, 0, 1),))
        for name in ("", "abcdefghi", "A", "a1", "a b", " ", "_", "\u00e9", "\uff41", "a\n"):
            self.no(((name, "a", 0, 1),))
            self.no((("f", name, 0, 1),))

    def test_other_lengths(self):
        for row in ((), ("f",), ("f", "a"), ("f", "a", 1), ("f", "a", 1, 2, 3), ("f", "a", (1, 2)), (("f", "a"), 1, 2)):
            self.no((row,))
        self.no(PLAIN[0])

    def test_truths_are_no_numbers(self):
        for early, late in ((True, 1), (True, 5), (0, True), (False, 0), (False, True), (0, False)):
            self.no((("f", "a", early, late),))

    def test_parts_of_other_kinds(self):
        for thing in itertools.chain(swapped_kinds(PLAIN), swapped_kinds((("f", "a", 0, 1),))):
            self.no(thing)

    def test_things_of_all_kinds(self):
        for thing in all_kinds():
            self.assertIs(are_flashes(thing), isinstance(thing, tuple) and thing == (), thing)
            self.no((thing,))
            self.no(PLAIN + (thing,))
            self.no((("f", "a", thing, thing),) if thing not in (0, 1, 2) or isinstance(thing, bool) else (thing,))
            self.no((("f", thing, 2, 1),))
        for kind in (list, tuple):
            self.no(nested(PLAIN, kind, 1))
            self.no(nested(PLAIN, kind, 28))

    def test_nothing_is_changed_and_it_is_answered_the_same_again(self):
        for thing in (PLAIN, list(PLAIN), [list(row) for row in PLAIN], tuple(list(row) for row in PLAIN)):
            before = copy.deepcopy(thing)
            first = are_flashes(thing)
            self.assertIs(are_flashes(thing), first)
            self.assertEqual(thing, before)


class Offsets(unittest.TestCase):
    def test_none(self):
        self.assertEqual(offsets(()), [])

    def test_one_looker_alone(self):
        self.assertEqual(offsets((("f", "q", 3, 900),)), [("q", "q", 0, 0)])
        self.assertEqual(offsets((("f", "q", 3, 3), ("g", "q", 900, 999), ("h", "q", 0, 1))), [("q", "q", 0, 0)])

    def test_two_lookers(self):
        self.assertEqual(offsets((("f", "a", 3, 3), ("f", "b", 10, 10))), [("a", "a", 0, 0), ("b", "a", -7, -7)])
        self.assertEqual(offsets((("f", "a", 3, 5), ("f", "b", 10, 14))), [("a", "a", 0, 0), ("b", "a", -11, -5)])
        self.assertEqual(offsets((("f", "a", 10, 14), ("f", "b", 3, 5))), [("a", "a", 0, 0), ("b", "a", 5, 11)])

    def test_two_flashes_are_closer_than_one(self):
        flashes = (("f", "a", 0, 10), ("f", "b", 0, 0), ("g", "a", 20, 20), ("g", "b", 15, 30))
        self.assertEqual(offsets(flashes[:2]), [("a", "a", 0, 0), ("b", "a", 0, 10)])
        self.assertEqual(offsets(flashes[2:]), [("a", "a", 0, 0), ("b", "a", -10, 5)])
        self.assertEqual(offsets(flashes), [("a", "a", 0, 0), ("b", "a", 0, 5)])

    def test_joined_over_others(self):
        self.assertEqual(
            offsets(PLAIN),
            [("a", "a", 0, 0), ("b", "a", -7, -5), ("c", "a", -14, -8), ("d", "d", 0, 0)],
        )

    def test_several_lots_each_with_its_own_first(self):
        flashes = (("f", "b", 1, 1), ("f", "d", 2, 2), ("g", "a", 5, 6), ("g", "c", 1, 1))
        flashes += (("h", "e", 4, 4), ("i", "c", 0, 9))
        self.assertEqual(
            offsets(flashes),
            [("a", "a", 0, 0), ("b", "b", 0, 0), ("c", "a", 4, 5), ("d", "b", -1, -1), ("e", "e", 0, 0)],
        )

    def test_the_first_one_may_be_joined_over_later_ones(self):
        flashes = (("f", "y", 0, 0), ("f", "z", 1, 1), ("g", "b", 5, 5), ("g", "z", 9, 9))
        flashes += (("h", "b", 1, 1), ("h", "c", 3, 3))
        self.assertEqual(
            offsets(flashes), [("b", "b", 0, 0), ("c", "b", -2, -2), ("y", "b", -3, -3), ("z", "b", -4, -4)]
        )

    def test_moments_that_cannot_be_joined(self):
        for flashes in (TWO, THREE):
            self.assertIsNone(offsets(flashes))
        # One lot alone can't be: then nothing is told of any.
        self.assertIsNone(offsets(TWO + (("h", "c", 1, 1), ("h", "d", 2, 2), ("i", "e", 0, 0))))
        self.assertIsNone(offsets(tuple(sorted(TWO + (("e", "c", 1, 1), ("e", "d", 2, 2))))))

    def test_just_and_just_not(self):
        for late in range(20):
            flashes = TWO[:3] + (("g", "b", min(14, late), late),)
            self.assertEqual(offsets(flashes) is None, late < 15, late)
        flashes = TWO[:3] + (("g", "b", 14, 15),)
        self.assertEqual(offsets(flashes), [("a", "a", 0, 0), ("b", "a", -5, -5)])

    def test_a_flash_seen_by_three(self):
        # a and b meet, b and c meet, and all three only where all do.
        flashes = (("f", "a", 0, 4), ("f", "b", 0, 0), ("f", "c", 0, 0), ("g", "b", 0, 0), ("g", "c", 3, 3))
        self.assertEqual(offsets(flashes), None)
        flashes = (("f", "a", 0, 4), ("f", "b", 0, 0), ("f", "c", 0, 3), ("g", "b", 0, 0), ("g", "c", 3, 3))
        self.assertEqual(offsets(flashes), [("a", "a", 0, 0), ("b", "a", 0, 4), ("c", "a", -3, 1)])

    def test_great_moments(self):
        flashes = (("f", "a", 0, 0), ("f", "b", 10**6, 10**6), ("g", "b", 0, 0), ("g", "c", 10**6, 10**6))
        far = -(10**6)
        self.assertEqual(offsets(flashes), [("a", "a", 0, 0), ("b", "a", far, far), ("c", "a", 2 * far, 2 * far)])

    def test_against_trying_all(self):
        chance = random.Random(41)
        told, untold = 0, 0
        for _ in range(400):
            flashes = random_flashes(chance, "abc", "fgh", 3)
            expected = plainly_offsets(flashes, 3)
            self.assertEqual(offsets(flashes), expected, flashes)
            told, untold = told + (expected is not None), untold + (expected is None)
        for _ in range(12):
            flashes = random_flashes(chance, "abcd", "fghi", 2)
            self.assertEqual(offsets(flashes), plainly_offsets(flashes, 2), flashes)
        self.assertGreater(min(told, untold), 30)

    def test_true_clocks_are_among_what_is_told(self):
        chance = random.Random(42)
        for _ in range(200):
            offset = {looker: chance.randint(-50, 50) for looker in "abcde"}
            rows = []
            for flash, looker in itertools.product("fghi", "abcde"):
                if chance.random() < 0.6:
                    clock = 200 + ord(flash) - offset[looker]
                    rows.append((flash, looker, clock - chance.randint(0, 9), clock + chance.randint(0, 9)))
            flashes = tuple(rows)
            self.assertIs(are_flashes(flashes), True)
            self.assertEqual(ring(flashes), [])
            rows = offsets(flashes)
            self.assertEqual([row[0] for row in rows], lookers_of(flashes))
            for looker, first, least, greatest in rows:
                self.assertTrue(least <= offset[looker] - offset[first] <= greatest)

    def test_called_otherwise_in_the_same_order(self):
        chance = random.Random(43)
        for _ in range(100):
            flashes = random_flashes(chance, "abcd", "fgh", 6)
            other = tuple(("x" + flash, "y" + looker, early, late) for flash, looker, early, late in flashes)
            rows = offsets(flashes)
            expected = None if rows is None else [("y" + row[0], "y" + row[1], *row[2:]) for row in rows]
            self.assertEqual(offsets(other), expected)
            self.assertEqual(ring(other), [("y" + one, "y" + two, "x" + flash) for one, two, flash in ring(flashes)])

    def test_a_clock_set_otherwise(self):
        chance = random.Random(44)
        for _ in range(100):
            flashes = random_flashes(chance, "abc", "fgh", 5)
            later = tuple((flash, looker, early + 7 * (looker == "c"), late + 7 * (looker == "c"))
                          for flash, looker, early, late in flashes)
            rows = offsets(flashes)
            if rows is not None:
                # Where c is the first of its lot, it is alone: it comes last of the three.
                ahead = [7 * (looker == "c" and first != "c") for looker, first, least, greatest in rows]
                rows = [(*row[:2], row[2] - by, row[3] - by) for row, by in zip(rows, ahead)]
            self.assertEqual(offsets(later), rows)

    def test_many_rows_and_somewhat_beyond(self):
        for many in (24, 25, 26):
            flashes = tuple(("f", looker, 0, at) for at, looker in enumerate(LETTERS[:many]))
            self.assertEqual(offsets(flashes), [("a", "a", 0, 0)] + [
                (looker, "a", -at, 0) for at, looker in enumerate(LETTERS[:many]) if at
            ])
            self.assertEqual(ring(flashes), [])
        chain = [(LETTERS[at] + "f", LETTERS[at + more], 5 * more, 5 * more) for at in range(25) for more in (0, 1)]
        self.assertIs(are_flashes(tuple(chain)), False)
        self.assertEqual(offsets(tuple(chain)), [(looker, "a", -5 * at, -5 * at) for at, looker in enumerate(LETTERS)])
        whole_ring = tuple(chain) + (("zz", "a", 0, 0), ("zz", "z", 124, 124))
        self.assertIsNone(offsets(whole_ring))
        self.assertEqual(len(ring(whole_ring)), 26)
        self.assertIs(is_ring(whole_ring, ring(whole_ring)), True)
        self.assertEqual(offsets((("longername", "longlooker", 0, 10**7),)), [("longlooker", "longlooker", 0, 0)])

    def test_each_list_is_a_new_one(self):
        for flashes in (PLAIN, TWO, ()):
            before = copy.deepcopy(flashes)
            rows, steps = offsets(flashes), ring(flashes)
            kept = copy.deepcopy((rows, steps))
            if rows is not None:
                rows.append("more")
                self.assertIsNot(offsets(flashes), offsets(flashes))
            steps.append("more")
            self.assertEqual((offsets(flashes), ring(flashes)), kept)
            self.assertIsNot(ring(flashes), ring(flashes))
            self.assertEqual(flashes, before)

    def test_kinds_of_what_is_told(self):
        for row in offsets(PLAIN):
            self.assertIs(type(row), tuple)
            self.assertEqual([type(part) for part in row], [str, str, int, int])
        self.assertIs(type(ring(TWO)), list)
        self.assertEqual({type(step) for step in ring(TWO)}, {tuple})


class Ring(unittest.TestCase):
    def yes(self, flashes, thing):
        self.assertIs(is_ring(flashes, thing), True, thing)

    def no(self, flashes, thing):
        self.assertIs(is_ring(flashes, thing), False, thing)

    def test_none_where_clocks_can_be_joined(self):
        for flashes in ((), PLAIN, TWO[:2], TWO[2:], THREE[:4], THREE[2:]):
            self.assertEqual(ring(flashes), [])

    def test_two_lookers_and_two_flashes(self):
        # From a to b by g it is 14 - 10, and back by f 0 - 5: together -1.
        self.assertEqual(plainly_rings(TWO), [[("a", "b", "g"), ("b", "a", "f")], [("b", "a", "f"), ("a", "b", "g")]])
        self.assertIn(ring(TWO), plainly_rings(TWO))
        for thing in plainly_rings(TWO):
            self.yes(TWO, thing)

    def test_three_lookers(self):
        self.assertIn(ring(THREE), plainly_rings(THREE))
        self.assertEqual({len(found) for found in plainly_rings(THREE)}, {3})
        for thing in plainly_rings(THREE):
            self.yes(THREE, thing)

    def test_just_below_nought_and_just_nought(self):
        steps = [("a", "b", "g"), ("b", "a", "f")]
        for late, shown in ((14, True), (15, False), (16, False)):
            flashes = TWO[:3] + (("g", "b", 14, late),)
            self.assertIs(is_ring(flashes, steps), shown)
            self.assertEqual(ring(flashes) != [], shown)

    def test_begun_elsewhere_and_turned_round(self):
        for flashes in (TWO, THREE):
            steps = ring(flashes)
            for at in range(len(steps)):
                self.yes(flashes, steps[at:] + steps[:at])
        steps = ring(THREE)
        self.no(THREE, steps[::-1])
        self.no(THREE, [(other, one, flash) for one, other, flash in steps[::-1]])
        self.no(THREE, [(other, one, flash) for one, other, flash in steps])
        self.no(THREE, [(one, flash, other) for one, other, flash in steps])

    def test_steps_left_out_and_twice(self):
        for flashes in (TWO, THREE):
            steps = ring(flashes)
            for at in range(len(steps)):
                self.no(flashes, steps[:at] + steps[at + 1:])
                self.no(flashes, steps[:at] + [steps[at]] + steps[at:])
                self.no(flashes, [steps[at]])

    def test_no_looker_is_the_one_of_two_steps(self):
        # Both halves alone are rings, and so is neither of them twice nor both together.
        steps = [("a", "b", "g"), ("b", "a", "f")]
        self.no(TWO, steps + steps)
        eight = tuple(sorted(TWO + (("p", "a", 0, 0), ("p", "c", 5, 5), ("q", "a", 10, 10), ("q", "c", 14, 14))))
        more = [("a", "c", "q"), ("c", "a", "p")]
        self.yes(eight, steps)
        self.yes(eight, more)
        self.no(eight, steps + more)
        self.no(eight, more + steps)

    def test_one_and_other_alike(self):
        flashes = (("f", "a", 5, 5), ("g", "a", 0, 9), ("g", "b", 0, 0))
        self.no(flashes, [("a", "a", "f")])
        self.no(flashes, [("a", "a", "g")])
        # What can't be flashes would else be below 0 by itself.
        self.no((("f", "a", 5, 1),), [("a", "a", "f")])

    def test_a_flash_that_one_of_the_two_did_not_see(self):
        flashes = tuple(sorted(TWO + (("h", "a", 500, 500), ("i", "b", 500, 500), ("j", "c", 0, 0))))
        self.yes(flashes, [("a", "b", "g"), ("b", "a", "f")])
        for flash in "hijz":
            self.no(flashes, [("a", "b", flash), ("b", "a", "f")])
            self.no(flashes, [("a", "b", "g"), ("b", "a", flash)])
        self.no(flashes, [("a", "c", "g"), ("c", "a", "f")])
        self.no(flashes, [("a", "z", "g"), ("z", "a", "f")])
        self.no(flashes, [("A", "b", "g"), ("b", "A", "f")])

    def test_steps_that_do_not_go_on(self):
        six = tuple(sorted(TWO + (("f", "c", 5, 5), ("g", "c", 14, 14))))
        self.yes(six, [("a", "b", "g"), ("b", "c", "f"), ("c", "a", "f")])
        self.no(six, [("a", "b", "g"), ("c", "a", "f")])
        self.no(six, [("a", "b", "g"), ("b", "c", "f")])
        self.no(six, [("a", "b", "g"), ("c", "a", "f"), ("b", "c", "f")])

    def test_the_empty_list_is_none(self):
        for flashes in ((), PLAIN, TWO, THREE):
            self.no(flashes, [])

    def test_against_all_rings(self):
        chance = random.Random(45)
        shown = set()
        for turn in range(300):
            flashes = random_flashes(chance, "abcd", "fgh", 4)
            if turn % 2:
                flashes = flashes_of_two(chance, "abcd", "fghi", 5, 2)
            rings = plainly_rings(flashes)
            found = ring(flashes)
            self.assertIs(found in rings if rings else found == [], True, flashes)
            self.assertEqual(offsets(flashes) is None, rings != [])
            self.assertIs(is_ring(flashes, found), rings != [])
            shown.add(len(found))
            for thing in rings[:20]:
                self.yes(flashes, thing)
            names = sorted({row[0] for row in flashes}) + ["z"]
            for _ in range(20):
                steps = list(itertools.product("abcd", "abcd", names))
                thing = chance.choices(steps, k=chance.randint(2, 3))
                self.assertIs(is_ring(flashes, thing), thing in rings)
        self.assertLessEqual({0, 2, 3}, shown)

    def test_all_lists_of_few_steps(self):
        for flashes in (TWO, THREE):
            rings = plainly_rings(flashes)
            names = sorted({row[0] for row in flashes})
            steps = list(itertools.product(lookers_of(flashes), lookers_of(flashes), names))
            for many in (1, 2, 3):
                for thing in itertools.product(steps, repeat=many):
                    self.assertIs(is_ring(flashes, list(thing)), list(thing) in rings, thing)

    def test_rings_of_many_lookers_meet_none_twice(self):
        chance = random.Random(46)
        longest = 0
        for _ in range(150):
            flashes = flashes_of_two(chance, "pqrstuvw", "abcdefghijkl", 40, 18)
            found = ring(flashes)
            self.assertEqual(found == [], offsets(flashes) is not None)
            self.assertIs(is_ring(flashes, found), found != [])
            longest = max(longest, len(found))
        self.assertGreaterEqual(longest, 4)

    def test_parts_of_other_kinds(self):
        for flashes in (TWO, THREE):
            for thing in swapped_kinds(ring(flashes)):
                self.no(flashes, thing)
            self.no(flashes, tuple(ring(flashes)))
            self.no(flashes, [list(step) for step in ring(flashes)])

    def test_things_of_all_kinds(self):
        for flashes in ((), PLAIN, TWO, THREE):
            for thing in all_kinds():
                self.no(flashes, thing)
                self.no(flashes, [thing])
                self.no(flashes, [("a", "b", "g"), thing])
                self.no(flashes, [("a", "b", "g"), ("b", "a", thing)])
                self.no(flashes, [(thing, "b", "g"), ("b", thing, "f")] if thing != "a" else thing)
        for kind in (list, tuple):
            self.no(TWO, nested(ring(TWO), kind, 1))
            self.no(TWO, nested(ring(TWO), kind, 28))

    def test_nothing_is_changed_and_it_is_answered_the_same_again(self):
        for thing in (ring(THREE), [list(step) for step in ring(THREE)], [[["a"]]], ring(THREE) * 2):
            before = copy.deepcopy(thing)
            first = is_ring(THREE, thing)
            self.assertIs(is_ring(THREE, thing), first)
            self.assertEqual(thing, before)


if __name__ == "__main__":
    unittest.main()
