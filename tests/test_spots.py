"""What is seen well, the fewest spots, and trees that so many don't [14] [15] [3] [2]."""

import copy
import itertools
import random
import unittest

from helper import all_kinds, nested, open_cells, plainly_seen, random_room, swapped_kinds
from rigeyes.rooms import cells, seen_from
from rigeyes.spots import fewest, is_tree, sees_well, tree

WIDE = ("......",) * 6
# A long row, from which on one side a nook goes off.
NOOK = ("......", "#.####")


def plainly_well(room, lot, cell):
    """By the words of point 14."""
    for (a, b), (c, d) in itertools.combinations(lot, 2):
        if plainly_seen(room, (a, b), cell) and plainly_seen(room, (c, d), cell):
            if (a - cell[0]) * (d - cell[1]) != (b - cell[1]) * (c - cell[0]):
                return True
    return False


def plainly_fewest(room, spots, wish):
    lots = [lot for many in range(len(spots) + 1) for lot in itertools.combinations(spots, many)]
    good = [lot for lot in lots if all(plainly_well(room, lot, cell) for cell in wish)]
    return good[0] if good else None


def plainly_trees(room, spots, wish, taken, left):
    """All trees for the spots taken so far, by the words of point 15."""
    for cell in wish:
        if plainly_well(room, taken, cell):
            continue
        if left == 0:
            yield ("open", cell)
        else:
            more = [spot for spot in spots if spot not in taken and plainly_seen(room, spot, cell)]
            branches = [list(plainly_trees(room, spots, wish, (*taken, spot), left - 1)) for spot in more]
            for trees in itertools.product(*branches):
                yield ("by", cell, trees)


def random_wish(chance, longest=6, most=8):
    """(room, spots, wish)"""
    room = random_room(chance, longest)
    told = open_cells(room)
    spots = tuple(sorted(chance.sample(told, min(len(told), chance.randint(0, most)))))
    wish = tuple(sorted(chance.sample(told, chance.randint(0, min(len(told), 6)))))
    return room, spots, wish


def hard_wish(chance):
    """A wish that the spots can see, and that needs several of them."""
    while True:
        room = random_room(chance)
        told = open_cells(room)
        spots = tuple(sorted(chance.sample(told, min(len(told), 8))))
        wish = tuple(cell for cell in told if plainly_well(room, spots, cell))
        enough = plainly_fewest(room, spots, wish)
        if len(enough) >= 3:
            return room, spots, wish, enough


def changed(thing):
    """The tree with one of its cells exchanged, or with branches left out, exchanged, twice, in turn."""
    for cell in ((0, 0), (1, 1), (2, 0), (9, 9), (-1, 0)):
        yield (thing[0], cell, *thing[2:])
    if thing[0] == "open":
        yield ("by", thing[1], ())
        yield ("by", thing[1], (thing,))
        yield ("open", thing[1], ())
    else:
        yield ("open", thing[1])
        yield ("by", thing[1])
        trees = thing[2]
        yield ("by", thing[1], ())
        yield ("by", thing[1], trees[::-1])
        for at, part in enumerate(trees):
            yield ("by", thing[1], trees[:at] + trees[at + 1:])
            yield ("by", thing[1], trees[:at] + (part,) + trees[at:])
            yield part
            for other in changed(part):
                yield ("by", thing[1], trees[:at] + (other,) + trees[at + 1:])


def without_truths(thing):
    """Whether no truth is in it, as a truth is like a number to Python."""
    if isinstance(thing, (tuple, list)):
        return all(without_truths(part) for part in thing)
    return not isinstance(thing, bool)


class SeesWell(unittest.TestCase):
    def yes(self, room, lot, cell):
        self.assertIs(sees_well(room, lot, cell), True, (room, lot, cell))

    def no(self, room, lot, cell):
        self.assertIs(sees_well(room, lot, cell), False, (room, lot, cell))

    def test_no_looker_and_one(self):
        for room in (WIDE, NOOK):
            for cell in cells(room):
                self.no(room, (), cell)
                for spot in cells(room):
                    self.no(room, (spot,), cell)

    def test_two_on_one_line_with_the_cell(self):
        # On either side of it, and on one side of it; straight and slanting.
        for lot in (((0, 2), (4, 2)), ((3, 2), (5, 2)), ((2, 0), (2, 5)), ((2, 3), (2, 4)), ((0, 0), (4, 4)),
                    ((3, 3), (5, 5)), ((0, 1), (4, 3)), ((1, 0), (3, 4)), ((0, 4), (4, 0)), ((1, 4), (3, 0))):
            self.no(WIDE, lot, (2, 2))
        self.no(WIDE, ((2, 1), (4, 2)), (0, 0))
        self.no(WIDE, ((0, 2), (1, 2), (3, 2), (4, 2), (5, 2)), (2, 2))

    def test_two_that_are_not_on_one_line(self):
        for lot in (((0, 2), (2, 0)), ((1, 1), (3, 1)), ((1, 2), (3, 3)), ((1, 1), (3, 2)), ((0, 0), (5, 4)),
                    ((0, 1), (4, 4))):
            self.yes(WIDE, lot, (2, 2))
        self.yes(WIDE, ((2, 1), (4, 3)), (0, 0))
        self.yes(WIDE, ((0, 2), (1, 2), (3, 2), (4, 2), (5, 1)), (2, 2))
        self.yes(WIDE, ((0, 0), (1, 2), (3, 2), (4, 2)), (2, 2))

    def test_all_pairs_in_a_room_without_walls(self):
        for cell in ((2, 2), (0, 0), (5, 1)):
            for lot in itertools.combinations(cells(WIDE), 2):
                self.assertIs(sees_well(WIDE, lot, cell), plainly_well(WIDE, lot, cell), (lot, cell))

    def test_the_cell_itself_in_the_lot(self):
        self.no(WIDE, ((2, 2),), (2, 2))
        self.no(WIDE, ((2, 2), (3, 3)), (2, 2))
        self.no(WIDE, ((2, 1), (2, 2), (2, 3)), (2, 2))
        self.yes(WIDE, ((1, 1), (2, 2), (2, 3)), (2, 2))

    def test_those_that_do_not_see_it_do_not_count(self):
        room = ("..#.", "....", "....")
        self.yes(room, ((0, 0), (1, 1)), (0, 1))
        # Neither (3, 0) nor (2, 1) sees (1, 0).
        self.no(room, ((0, 0), (3, 0)), (1, 0))
        self.no(room, ((0, 0), (2, 1)), (1, 0))
        self.yes(room, ((0, 0), (1, 2)), (1, 0))
        # Past a corner alone (2, 2) would see (0, 1), and the rim counts.
        self.no(("...", ".#.", "..."), ((0, 0), (2, 2)), (0, 1))
        self.yes(("...", "...", "..."), ((0, 0), (2, 2)), (0, 1))

    def test_by_its_words(self):
        chance = random.Random(61)
        some = {True: 0, False: 0}
        for _ in range(1500):
            room = random_room(chance)
            told = open_cells(room)
            lot = tuple(sorted(chance.sample(told, min(len(told), chance.randint(2, 4)))))
            cell = chance.choice(told)
            well = plainly_well(room, lot, cell)
            self.assertIs(sees_well(room, lot, cell), well, (room, lot, cell))
            some[well] += 1
        self.assertGreater(min(some.values()), 300)


class Fewest(unittest.TestCase):
    def test_an_empty_wish(self):
        for spots in ((), ((0, 0),), tuple(cells(WIDE))[:8]):
            self.assertEqual(fewest(WIDE, spots, ()), ())
            self.assertIs(type(fewest(WIDE, spots, ())), tuple)

    def test_no_spot(self):
        self.assertIsNone(fewest(WIDE, (), ((0, 0),)))
        self.assertIsNone(fewest((".",), (), ((0, 0),)))

    def test_one_spot_never_does(self):
        for spot, cell in itertools.product(cells(NOOK), repeat=2):
            self.assertIsNone(fewest(NOOK, (spot,), (cell,)))

    def test_two_of_three(self):
        spots = ((0, 0), (1, 1), (3, 0))
        self.assertEqual(fewest(WIDE, spots, ((2, 2),)), ((0, 0), (3, 0)))
        self.assertEqual(fewest(WIDE, spots, ((2, 2), (4, 5))), ((0, 0), (3, 0)))
        self.assertEqual(fewest(WIDE, spots[:2], ((2, 2),)), None)
        self.assertEqual(fewest(WIDE, spots, ((0, 0),)), ((1, 1), (3, 0)))

    def test_of_as_few_the_first(self):
        spots = ((0, 0), (0, 1), (0, 2), (0, 3), (1, 0), (1, 1))
        self.assertEqual(fewest(WIDE, spots, ((3, 3),)), ((0, 0), (0, 1)))
        self.assertEqual(fewest(WIDE, spots, ((0, 5),)), ((0, 0), (1, 0)))
        self.assertEqual(fewest(WIDE, spots, ((0, 0),)), ((0, 1), (1, 0)))

    def test_few_ahead_of_first(self):
        # The first three do, too, and come ahead of the two by order, but they are more.
        spots, wish = ((0, 2), (1, 2), (2, 0), (5, 5)), ((4, 2),)
        self.assertTrue(plainly_well(WIDE, spots[:3], (4, 2)))
        self.assertLess(spots[:3], ((0, 2), (2, 0)))
        self.assertEqual(fewest(WIDE, spots, wish), ((0, 2), (2, 0)))

    def test_spots_that_are_wished_themselves(self):
        # None sees itself, so each of the three is seen by the other two alone.
        spots = ((0, 0), (0, 5), (5, 0))
        self.assertEqual(fewest(WIDE, spots, spots), spots)
        self.assertEqual(fewest(WIDE, spots[:2], spots[:2]), None)

    def test_none_where_all_spots_do_not(self):
        self.assertIsNone(fewest(("......",), tuple(cells(("......",))), ((0, 0),)))
        spots = tuple(cells(NOOK))
        self.assertEqual(fewest(NOOK, spots, ((1, 1),)), None)
        self.assertIsNone(fewest(WIDE, ((0, 0), (1, 1), (3, 3)), ((2, 2), (4, 4))))

    def test_by_its_words(self):
        chance = random.Random(62)
        sizes = {}
        for _ in range(250):
            room, spots, wish = random_wish(chance)
            enough = fewest(room, spots, wish)
            self.assertEqual(enough, plainly_fewest(room, spots, wish), (room, spots, wish))
            sizes[enough and len(enough)] = True
        for _ in range(25):
            room, spots, wish, enough = hard_wish(chance)
            self.assertEqual(fewest(room, spots, wish), enough, (room, spots, wish))
            sizes[len(enough)] = True
        for size in (None, 2, 3, 4, 5):
            self.assertIn(size, sizes)

    def test_made_of_tuples(self):
        chance = random.Random(63)
        for _ in range(10):
            room, spots, wish, enough = hard_wish(chance)
            told = fewest(room, spots, wish)
            self.assertIs(type(told), tuple)
            self.assertEqual(list(told), sorted(told))
            self.assertTrue(all(type(cell) is tuple and cell in spots for cell in told))

    def test_turned_by_quarters(self):
        chance = random.Random(64)
        for _ in range(40):
            room, spots, wish = random_wish(chance)
            high, wide = len(room), len(room[0])
            quarter = tuple("".join(room[high - 1 - x][y] for x in range(high)) for y in range(wide))
            carried = [tuple(sorted((high - 1 - y, x) for x, y in lot)) for lot in (spots, wish)]
            one, other = fewest(room, spots, wish), fewest(quarter, *carried)
            self.assertEqual(one and len(one), other and len(other))

    def test_somewhat_beyond_the_limits(self):
        room = ("........",) * 3 + ("..#....#",) + ("........",) * 4
        spots = tuple(cells(room)[::6])
        self.assertEqual(len(spots), 11)
        wish = tuple(cells(room)[1::5])
        self.assertEqual(fewest(room, spots, wish), plainly_fewest(room, spots, wish))


class Tree(unittest.TestCase):
    def check(self, room, spots, wish, many):
        """A tree that is one just where so many don't."""
        told = tree(room, spots, wish, many)
        enough = plainly_fewest(room, spots, wish)
        if enough is not None and len(enough) <= many:
            self.assertIsNone(told, (room, spots, wish, many))
        else:
            self.assertIs(self.plainly_is(room, spots, wish, (), many, told), True, (room, spots, wish, many, told))
            self.assertIs(is_tree(room, spots, wish, many, told), True, (room, spots, wish, many, told))
        return told

    def plainly_is(self, room, spots, wish, taken, left, thing):
        """Of what is made of tuples, texts and whole numbers, by the words of point 15."""
        if not isinstance(thing, tuple) or len(thing) != (2 if left == 0 else 3):
            return False
        if thing[0] != ("open" if left == 0 else "by") or thing[1] not in wish or not without_truths(thing[1]):
            return False
        if plainly_well(room, taken, thing[1]):
            return False
        if left == 0:
            return True
        more = [spot for spot in spots if spot not in taken and plainly_seen(room, spot, thing[1])]
        if not isinstance(thing[2], tuple) or len(thing[2]) != len(more):
            return False
        return all(self.plainly_is(room, spots, wish, (*taken, spot), left - 1, part)
                   for spot, part in zip(more, thing[2]))

    def test_each_number_from_0_to_8(self):
        spots = ((0, 0), (0, 5), (5, 0))
        for many in range(9):
            told = self.check(WIDE, spots, spots, many)
            self.assertEqual(told is None, many >= 3)
        for many in range(9):
            told = self.check(WIDE, spots[:2], spots[:2], many)
            self.assertIsNotNone(told)

    def test_none_taken(self):
        self.assertEqual(tree(WIDE, ((0, 0), (0, 1)), ((3, 3),), 0), ("open", (3, 3)))
        self.assertEqual(tree(WIDE, (), ((3, 3),), 0), ("open", (3, 3)))
        self.assertIsNone(tree(WIDE, (), (), 0))
        self.assertIsNone(tree(WIDE, ((0, 0),), (), 8))

    def test_one_taken(self):
        expected = ("by", (3, 3), (("open", (3, 3)), ("open", (3, 3))))
        self.assertEqual(tree(WIDE, ((0, 0), (0, 1)), ((3, 3),), 1), expected)
        self.assertIsNone(tree(WIDE, ((0, 0), (0, 1)), ((3, 3),), 2))

    def test_no_spot_that_sees_it(self):
        for many in range(1, 9):
            self.assertEqual(tree(WIDE, (), ((3, 3),), many), ("by", (3, 3), ()))
            self.assertEqual(tree(WIDE, ((3, 3),), ((3, 3),), many), ("by", (3, 3), ()))
            self.assertEqual(tree((".#.",), ((0, 0),), ((2, 0),), many), ("by", (2, 0), ()))

    def test_all_taken_and_more_might_be(self):
        inner = ("by", (2, 0), ())
        two = ("by", (2, 0), (("by", (2, 0), (inner,)), ("by", (2, 0), (inner,))))
        room, spots, wish = ("...",), ((0, 0), (1, 0)), ((2, 0),)
        for many in range(3, 9):
            self.assertEqual(tree(room, spots, wish, many), two)
        self.assertIs(is_tree(room, spots, wish, 2, two), False)
        leaf = ("open", (2, 0))
        by_two = ("by", (2, 0), (("by", (2, 0), (leaf,)), ("by", (2, 0), (leaf,))))
        self.assertEqual(tree(room, spots, wish, 2), by_two)
        self.assertIs(is_tree(room, spots, wish, 3, by_two), False)

    def test_by_its_words(self):
        chance = random.Random(65)
        some, none = 0, 0
        for _ in range(120):
            room, spots, wish = random_wish(chance)
            for many in range(9):
                told = self.check(room, spots, wish, many)
                some += told is not None
                none += told is None
        self.assertGreater(min(some, none), 100)

    def test_just_fewer_than_enough(self):
        chance = random.Random(66)
        for _ in range(12):
            room, spots, wish, enough = hard_wish(chance)
            for many in (len(enough) - 2, len(enough) - 1, len(enough)):
                told = self.check(room, spots, wish, many)
                self.assertEqual(told is None, many == len(enough))

    def test_all_trees_are_ones_and_no_others(self):
        chance = random.Random(67)
        several = 0
        for _ in range(150):
            room, spots, wish = random_wish(chance, 4, 3)
            for many in range(3):
                trees = list(itertools.islice(plainly_trees(room, spots, wish[:2], (), many), 40))
                several += len(trees) > 1
                for thing in trees:
                    self.assertIs(is_tree(room, spots, wish[:2], many, thing), True, (room, spots, wish, many, thing))
                    for other in changed(thing):
                        expected = self.plainly_is(room, spots, wish[:2], (), many, other)
                        self.assertIs(is_tree(room, spots, wish[:2], many, other), expected, (room, spots, wish, other))
                    for fewer in range(4):
                        expected = self.plainly_is(room, spots, wish[:2], (), fewer, thing)
                        self.assertIs(is_tree(room, spots, wish[:2], fewer, thing), expected)
                self.assertEqual(tree(room, spots, wish[:2], many) is None, trees == [])
        self.assertGreater(several, 50)

    def test_a_tree_of_another_wish_or_of_other_spots(self):
        spots, wish = ((0, 0), (0, 1), (1, 0)), ((3, 3), (4, 4))
        told = tree(WIDE, spots, wish, 1)
        self.assertIs(is_tree(WIDE, spots, wish, 1, told), True)
        self.assertIs(is_tree(WIDE, spots[:2], wish, 1, told), False)
        self.assertIs(is_tree(WIDE, spots + ((2, 0),), wish, 1, told), False)
        self.assertIs(is_tree(WIDE, spots, (), 1, told), False)
        self.assertIs(is_tree(WIDE, spots, ((2, 3),), 1, told), False)

    def test_changed_in_one_place(self):
        chance = random.Random(68)
        for _ in range(6):
            room, spots, wish, enough = hard_wish(chance)
            many = min(len(enough) - 1, 3)
            thing = tree(room, spots, wish, many)
            for other in itertools.islice(changed(thing), 400):
                expected = self.plainly_is(room, spots, wish, (), many, other)
                self.assertIs(is_tree(room, spots, wish, many, other), expected, (room, spots, wish, many, other))

    def test_branches_left_out_exchanged_and_twice(self):
        # (0, 0) and (1, 1) lie on one line with (3, 3), (0, 1) doesn't: so a branch is not like the next one.
        spots, wish = ((0, 0), (0, 1), (1, 1)), ((2, 5), (3, 3), (4, 4))
        leaf = ("open", (3, 3))
        thing = ("by", (3, 3), (leaf, leaf, leaf))
        self.assertIs(is_tree(WIDE, spots, wish, 1, thing), True)
        for many_leaves in (0, 1, 2, 4):
            self.assertIs(is_tree(WIDE, spots, wish, 1, ("by", (3, 3), (leaf,) * many_leaves)), False)
        # The second cell is seen by the first alone, so what is left to take hangs on what was taken.
        room, spots, wish = ("....#..",), ((0, 0), (1, 0), (5, 0)), ((1, 0), (3, 0))
        none, one = ("by", (1, 0), ()), ("by", (1, 0), (("open", (1, 0)),))
        self.assertIs(is_tree(room, spots, wish, 2, ("by", (3, 0), (none, one))), True)
        for trees in ((one, none), (none, none), (one, one), (none,), (one,), (none, one, one), (none, none, one), ()):
            self.assertIs(is_tree(room, spots, wish, 2, ("by", (3, 0), trees)), False)

    def test_a_cell_that_is_not_of_the_wish(self):
        spots = ((0, 0), (0, 1))
        for cell in ((3, 4), (0, 0), (9, 9), (-1, -1), (4, 3)):
            self.assertIs(is_tree(WIDE, spots, ((3, 3),), 0, ("open", cell)), False)
            leaf = ("open", (3, 3))
            self.assertIs(is_tree(WIDE, spots, ((3, 3),), 1, ("by", cell, (leaf, leaf))), False)
            self.assertIs(is_tree(WIDE, spots, ((3, 3),), 1, ("by", (3, 3), (leaf, ("open", cell)))), False)

    def test_a_cell_that_is_seen_well(self):
        # Once (0, 0) and (0, 5) are taken (5, 0) is seen well, but they themselves are not.
        spots = ((0, 0), (0, 5), (5, 0))
        thing = ("by", (5, 0), (
            ("by", (5, 0), (("open", (0, 0)),)),
            ("by", (5, 0), (("open", (0, 5)),)),
        ))
        self.assertIs(is_tree(WIDE, spots, spots, 2, thing), True)
        for cell in spots:
            leaves = ("open", cell), ("open", cell)
            other = ("by", (5, 0), (("by", (5, 0), leaves[:1]), ("by", (5, 0), leaves[1:])))
            self.assertIs(is_tree(WIDE, spots, spots, 2, other), cell != (5, 0))

    def test_open_and_by_where_the_other_is_due(self):
        spots, wish = ((0, 0), (0, 1)), ((3, 3),)
        leaf = ("open", (3, 3))
        for many in range(1, 9):
            self.assertIs(is_tree(WIDE, spots, wish, many, leaf), False)
        self.assertIs(is_tree(WIDE, spots, wish, 0, leaf), True)
        self.assertIs(is_tree(WIDE, spots, wish, 0, ("by", (3, 3), (leaf, leaf))), False)
        self.assertIs(is_tree(WIDE, (), wish, 0, ("by", (3, 3), ())), False)
        self.assertIs(is_tree(WIDE, (), wish, 1, ("by", (3, 3), ())), True)
        self.assertIs(is_tree(WIDE, (), wish, 1, leaf), False)
        self.assertIs(is_tree(WIDE, spots, wish, 1, ("open", (3, 3), (leaf, leaf))), False)
        self.assertIs(is_tree(WIDE, spots, wish, 1, ("by", (3, 3), (leaf, ("by", (3, 3), ())))), False)
        for word in ("", "Open", "opens", "BY", "b", None, True, 0, ("open",), ["by"]):
            self.assertIs(is_tree(WIDE, spots, wish, 0, (word, (3, 3))), False)
            self.assertIs(is_tree(WIDE, spots, wish, 1, (word, (3, 3), (leaf, leaf))), False)

    def test_truths_in_place_of_numbers(self):
        for cell in ((0, 0), (0, 1), (1, 0), (1, 1)):
            wish = (cell,)
            self.assertIs(is_tree(WIDE, (), wish, 0, ("open", cell)), True)
            for other in ((bool(cell[0]), cell[1]), (cell[0], bool(cell[1])), (bool(cell[0]), bool(cell[1]))):
                self.assertEqual(other, cell)
                self.assertIs(is_tree(WIDE, (), wish, 0, ("open", other)), False)
                self.assertIs(is_tree(WIDE, (), wish, 3, ("by", other, ())), False)

    def test_parts_of_other_kinds(self):
        spots = ((0, 0), (0, 5), (5, 0))
        for many, wish in ((0, spots), (1, spots), (2, spots), (2, ((1, 0), (1, 1))), (8, ((2, 2),))):
            room = WIDE if many < 8 else ("..#", "###", "#..")
            lot = spots if many < 8 else ((0, 0), (1, 2))
            thing = tree(room, lot, wish, many)
            if thing is None:
                continue
            self.assertIs(is_tree(room, lot, wish, many, thing), True)
            for other in swapped_kinds(thing):
                expected = self.plainly_is(room, lot, wish, (), many, other)
                self.assertIs(is_tree(room, lot, wish, many, other), expected, other)
                self.assertIs(expected, False)

    def test_things_of_all_kinds(self):
        spots, wish = ((0, 0), (0, 1)), ((1, 1), (3, 3))
        leaf = ("open", (3, 3))
        for thing in all_kinds():
            for many in range(9):
                self.assertIs(is_tree(WIDE, spots, wish, many, thing), False, thing)
                self.assertIs(is_tree(WIDE, spots, (), many, thing), False, thing)
            self.assertIs(is_tree(WIDE, spots, wish, 0, ("open", thing)), False)
            self.assertIs(is_tree(WIDE, spots, wish, 0, (thing, (3, 3))), False)
            self.assertIs(is_tree(WIDE, spots, wish, 0, ("open", (3, thing))), False)
            self.assertIs(is_tree(WIDE, spots, wish, 1, ("by", thing, (leaf, leaf))), False)
            self.assertIs(is_tree(WIDE, spots, wish, 1, ("by", (3, 3), thing)), False)
            self.assertIs(is_tree(WIDE, spots, wish, 1, ("by", (3, 3), (leaf, thing))), False)
        for kind, depth in itertools.product((list, tuple), (1, 25)):
            self.assertIs(is_tree(WIDE, spots, wish, 0, nested(leaf, kind, depth)), False)

    def test_a_tree_as_deep_as_there_can_be(self):
        # Five see the sixth cell of the row, all on one line with it: a branch for each order of them.
        room = ("......",)
        spots, wish = tuple(cells(room))[:5], ((5, 0),)
        self.assertEqual(seen_from(room, (5, 0)), list(spots))
        for many in range(9):
            self.assertIsNotNone(self.check(room, spots, wish, many))
        # Eight do, beyond the longest room: with none left there is nothing to branch by.
        room = (".........",)
        spots, wish = tuple(cells(room))[:8], ((8, 0),)
        told = tree(room, spots, wish, 5)
        self.assertIs(is_tree(room, spots, wish, 5, told), True)
        self.assertIs(is_tree(room, spots, wish, 4, told), False)

    def test_eight_spots_that_are_all_needed(self):
        # Four nooks of their own, each with a cell that two spots alone see.
        room = ("..#..", ".###.", "#####", "..#..", ".###.")
        wish = ((0, 0), (0, 3), (4, 0), (4, 3))
        spots = ((0, 1), (0, 4), (1, 0), (1, 3), (3, 0), (3, 3), (4, 1), (4, 4))
        self.assertEqual(fewest(room, spots, wish), spots)
        for many in range(9):
            told = self.check(room, spots, wish, many)
            self.assertEqual(told is None, many == 8)

    def test_kinds_of_what_is_told(self):
        chance = random.Random(69)
        room, spots, wish, enough = hard_wish(chance)
        waiting = [tree(room, spots, wish, len(enough) - 1)]
        while waiting:
            thing = waiting.pop()
            self.assertEqual((type(thing), type(thing[0]), type(thing[1])), (tuple, str, tuple))
            self.assertIn(thing[1], wish)
            if thing[0] == "by":
                self.assertIs(type(thing[2]), tuple)
                waiting += thing[2]

    def test_told_the_same_again_and_nothing_changed(self):
        spots = ((0, 0), (0, 5), (5, 0))
        given = (WIDE, spots, spots)
        before = copy.deepcopy(given)
        self.assertEqual(tree(*given, 2), tree(*given, 2))
        self.assertEqual(fewest(*given), fewest(*given))
        for thing in (tree(*given, 2), ["by", [[0]]], [("open", [5, 0])]):
            kept = copy.deepcopy(thing)
            first = is_tree(*given, 2, thing)
            self.assertIs(is_tree(*given, 2, thing), first)
            self.assertEqual(thing, kept)
        self.assertEqual(given, before)


if __name__ == "__main__":
    unittest.main()
