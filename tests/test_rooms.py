"""What a room is, its open cells, and which of them see one another [13] [3] [2]."""

import copy
import itertools
import random
import unittest

from helper import GREAT, all_kinds, nested, open_cells, plainly_seen, random_room, swapped_kinds
from rigeyes.rooms import cells, is_room, seen_from, sees

PLAIN = ("..#.", "....", "#..#")


class IsRoom(unittest.TestCase):
    def yes(self, thing):
        self.assertIs(is_room(thing), True, thing)

    def no(self, thing):
        self.assertIs(is_room(thing), False, thing)

    def test_rooms(self):
        for thing in ((".",), ("..", ".."), ("#.",), ("#", "."), (".#", "##"), PLAIN, ("......",) * 6):
            self.yes(thing)
        chance = random.Random(51)
        for _ in range(300):
            self.yes(random_room(chance))

    def test_one_to_six_rows_of_one_to_six_signs(self):
        for high, wide in itertools.product(range(10), repeat=2):
            self.assertIs(is_room(("." * wide,) * high), 1 <= high <= 6 and 1 <= wide <= 6, (high, wide))

    def test_rows_of_unlike_lengths(self):
        for thing in (("..", "."), (".", ".."), ("..", "..", "..."), ("..", ".", ".."), (".", ""), ("", ".")):
            self.no(thing)

    def test_walls_alone(self):
        for high, wide in itertools.product(range(1, 7), repeat=2):
            walls = ["#" * wide] * high
            self.no(tuple(walls))
            for at in range(wide):
                self.yes(tuple(walls[:-1] + ["#" * at + "." + "#" * (wide - at - 1)]))
                self.yes(tuple(["#" * at + "." + "#" * (wide - at - 1)] + walls[1:]))

    def test_other_signs(self):
        for sign in " xoX0,:;*+-\n\t\u00b7\u2026\u3002\uff0e\uff03\u0000":
            for thing in ((sign,), ("." + sign,), (sign + "#.",), ("..", "." + sign), (sign * 2, "..")):
                self.no(thing)

    def test_lists_and_texts_in_place_of_tuples(self):
        for thing in ([".", "."], ["..", ".."], ".", "..", "#.", (".", ["."]), (("." ,),), ((".", "."),), [(".",)]):
            self.no(thing)

    def test_truths_numbers_and_none(self):
        for part in (True, False, None, 0, 1, GREAT, (), [], ("..",), ["..", ".."]):
            self.assertIs(is_room(part), part == ("..",), part)
            for thing in ((part,), ("..", part), (part, ".."), ("..", part, "..")):
                self.no(thing)

    def test_parts_of_other_kinds(self):
        for room in ((".",), PLAIN, ("......",) * 6):
            for thing in swapped_kinds(room):
                self.no(thing)

    def test_things_of_all_kinds(self):
        for thing in all_kinds():
            self.no(thing)
            self.no((thing,))
            self.no(("..", thing))
        for kind, inmost, depth in itertools.product((list, tuple), (".", (".",), PLAIN), (2, 28, 29, 30)):
            self.no(nested(inmost, kind, depth))
        self.yes(nested(".", tuple, 1))


class Cells(unittest.TestCase):
    def test_by_hand(self):
        self.assertEqual(cells((".",)), [(0, 0)])
        self.assertEqual(cells(("#.",)), [(1, 0)])
        self.assertEqual(cells(("#", ".")), [(0, 1)])
        expected = [(0, 0), (0, 1), (1, 0), (1, 1), (1, 2), (2, 1), (2, 2), (3, 0), (3, 1)]
        self.assertEqual(cells(PLAIN), expected)

    def test_rising_and_all(self):
        chance = random.Random(52)
        for _ in range(200):
            room = random_room(chance)
            told = cells(room)
            self.assertEqual(told, sorted(told))
            for x, y in itertools.product(range(len(room[0])), range(len(room))):
                self.assertEqual((x, y) in told, room[y][x] == ".")
            self.assertEqual(len(told), "".join(room).count("."))

    def test_all_of_six_by_six(self):
        self.assertEqual(cells(("......",) * 6), list(itertools.product(range(6), repeat=2)))

    def test_kinds(self):
        self.assertIs(type(cells(PLAIN)), list)
        for cell in cells(PLAIN):
            self.assertEqual((type(cell), type(cell[0]), type(cell[1])), (tuple, int, int))


class Sees(unittest.TestCase):
    def yes(self, room, cell, other):
        self.assertIs(sees(room, cell, other), True, (room, cell, other))
        self.assertIs(sees(room, other, cell), True, (room, other, cell))

    def no(self, room, cell, other):
        self.assertIs(sees(room, cell, other), False, (room, cell, other))
        self.assertIs(sees(room, other, cell), False, (room, other, cell))

    def test_none_sees_itself(self):
        for room in ((".",), PLAIN, ("......",) * 6):
            for cell in cells(room):
                self.no(room, cell, cell)
                self.assertNotIn(cell, seen_from(room, cell))

    def test_beside_one_another(self):
        self.yes(("..",), (0, 0), (1, 0))
        self.yes((".", "."), (0, 0), (0, 1))
        self.yes(("..", ".."), (0, 0), (1, 1))
        self.yes(("..", "##"), (0, 0), (1, 0))
        self.yes(("###", "#..", "###"), (1, 1), (2, 1))

    def test_along_a_row_and_a_column(self):
        self.yes(("......",), (0, 0), (5, 0))
        self.no((".#.",), (0, 0), (2, 0))
        self.no((".", "#", "."), (0, 0), (0, 2))
        self.no((".....#", "...#.."), (2, 1), (5, 1))
        self.yes((".....#", "...#.."), (0, 0), (4, 0))

    def test_straight_past_the_sides_of_walls(self):
        # Half a cell lies between the way and the walls on both sides of it.
        self.yes(("#####", ".....", "#####"), (0, 1), (4, 1))
        self.yes(("#.#", "#.#", "#.#"), (1, 0), (1, 2))
        self.yes((".###", "...."), (0, 1), (3, 1))

    def test_slanting_past_the_corner_of_a_wall(self):
        # The way goes just through the point at which the four cells meet: the rim counts.
        self.no((".#", ".."), (0, 0), (1, 1))
        self.no(("..", "#."), (0, 0), (1, 1))
        self.no(("..", ".#"), (1, 0), (0, 1))
        self.no(("#.", ".."), (1, 0), (0, 1))
        self.no(("...", "..#", "..."), (1, 0), (2, 2))
        self.no(("...", "#..", "..."), (0, 0), (1, 2))

    def test_through_the_corner_between_two_walls(self):
        self.no((".#", "#."), (0, 0), (1, 1))
        self.no(("#.", ".#"), (1, 0), (0, 1))
        self.no(("..#", ".#.", "..."), (1, 0), (2, 1))
        self.no((".#.", "#..", "..."), (0, 0), (2, 2))

    def test_slanting_past_the_side_of_a_wall(self):
        # From (0, 0) to (2, 1) the way goes by (1, 0) and (1, 1), from middle to middle over their common side.
        self.yes(("...", "..."), (0, 0), (2, 1))
        self.no((".#.", "..."), (0, 0), (2, 1))
        self.no(("...", ".#."), (0, 0), (2, 1))
        self.yes(("..#", "..."), (0, 0), (2, 1))
        self.yes(("...", "#.."), (0, 0), (2, 1))
        # The way leaves (1, 0) downwards, so it has no point in (2, 0), nor one in (0, 1).
        self.yes(("..##", "#..."), (0, 0), (2, 1))

    def test_a_corner_far_from_both_ends(self):
        # From (0, 0) to (3, 1) the way goes from (1, 0) to (2, 1) by the point at which they meet.
        self.yes(("...#", "#..."), (0, 0), (3, 1))
        self.no(("..#.", "...."), (0, 0), (3, 1))
        self.no(("....", ".#.."), (0, 0), (3, 1))
        room = ("......", "......", "......", "......", "......", "......")
        for x, y in itertools.product(range(6), repeat=2):
            walled = tuple(row[:x] + "#" + row[x + 1:] if at == y else row for at, row in enumerate(room))
            if (x, y) not in ((0, 0), (5, 5)):
                # Cells beside the slanting row of cells touch the way with a corner, others don't.
                self.assertIs(sees(walled, (0, 0), (5, 5)), abs(x - y) > 1, (x, y))

    def test_a_wall_right_at_the_end_of_the_way(self):
        self.yes(("...#",), (0, 0), (2, 0))
        self.yes(("#...",), (1, 0), (3, 0))
        self.yes(("#####", "#...#", "#####"), (1, 1), (3, 1))
        self.yes(("....", "....", "...#"), (0, 0), (2, 1))
        self.yes(("....", "....", "....", "...#"), (0, 0), (2, 2))
        self.yes(("...#", "...#", "####"), (0, 0), (2, 1))

    def test_walls_behind_and_beside_are_not_in_the_way(self):
        self.yes(("#.#.#", "#...#", "#####"), (1, 1), (3, 1))
        self.yes(("..#", "...", "#.."), (0, 0), (1, 1))
        self.yes(("...", "...", "..#"), (0, 0), (1, 1))
        self.yes(("#..", "...", "..."), (1, 1), (2, 2))

    def test_rooms_without_walls(self):
        for high, wide in ((1, 1), (1, 6), (6, 1), (3, 4), (6, 6)):
            room = ("." * wide,) * high
            for cell in cells(room):
                self.assertEqual(seen_from(room, cell), [other for other in cells(room) if other != cell])

    def test_against_plain_fractions(self):
        chance = random.Random(53)
        some = {True: 0, False: 0}
        for _ in range(120):
            room = random_room(chance)
            for cell, other in itertools.product(cells(room), repeat=2):
                seen = plainly_seen(room, cell, other)
                self.assertIs(sees(room, cell, other), seen, (room, cell, other))
                some[seen] += 1
        self.assertGreater(min(some.values()), 1000)

    def test_all_rooms_of_three_by_three(self):
        for signs in itertools.product(".#", repeat=9):
            room = tuple("".join(signs[at:at + 3]) for at in (0, 3, 6))
            for cell in open_cells(room):
                expected = [other for other in open_cells(room) if plainly_seen(room, cell, other)]
                self.assertEqual(seen_from(room, cell), expected, (room, cell))

    def test_each_way_about_the_same(self):
        chance = random.Random(54)
        for _ in range(40):
            room = random_room(chance)
            for cell, other in itertools.combinations(cells(room), 2):
                self.assertIs(sees(room, cell, other), sees(room, other, cell))

    def test_turned_and_mirrored_and_moved(self):
        chance = random.Random(55)
        for _ in range(40):
            room = random_room(chance)
            high, wide = len(room), len(room[0])
            quarter = tuple("".join(room[high - 1 - x][y] for x in range(high)) for y in range(wide))
            mirrored = tuple(row[::-1] for row in room)
            within = ("#" * (wide + 2),) + tuple("#" + row + "#" for row in room) + ("." * (wide + 2),)
            for (a, b), (c, d) in itertools.combinations(cells(room), 2):
                told = sees(room, (a, b), (c, d))
                self.assertIs(sees(quarter, (high - 1 - b, a), (high - 1 - d, c)), told)
                self.assertIs(sees(mirrored, (wide - 1 - a, b), (wide - 1 - c, d)), told)
                self.assertIs(sees(within, (a + 1, b + 1), (c + 1, d + 1)), told)

    def test_somewhat_beyond_the_limits(self):
        room = ("........", "..#.....", ".....#..", "........", ".#......", "........", "....#...", "........")
        self.assertIs(is_room(room), False)
        self.assertEqual(len(cells(room)), 60)
        for cell, other in itertools.product(cells(room), repeat=2):
            self.assertIs(sees(room, cell, other), plainly_seen(room, cell, other))


class SeenFrom(unittest.TestCase):
    def test_by_hand(self):
        self.assertEqual(seen_from((".",), (0, 0)), [])
        self.assertEqual(seen_from((".#.",), (0, 0)), [])
        self.assertEqual(seen_from(("...",), (1, 0)), [(0, 0), (2, 0)])
        self.assertEqual(seen_from(("..", ".#"), (0, 0)), [(0, 1), (1, 0)])
        self.assertEqual(seen_from(("..", ".#"), (1, 0)), [(0, 0)])
        self.assertEqual(seen_from(PLAIN, (0, 0)), [(0, 1), (1, 0), (1, 1), (1, 2), (2, 1), (2, 2)])

    def test_rising_and_all(self):
        chance = random.Random(56)
        for _ in range(60):
            room = random_room(chance)
            for cell in cells(room):
                told = seen_from(room, cell)
                self.assertEqual(told, sorted(told))
                self.assertEqual(told, [other for other in cells(room) if plainly_seen(room, cell, other)])

    def test_each_list_is_a_new_one_and_nothing_is_changed(self):
        before = copy.deepcopy(PLAIN)
        for ask in (lambda: cells(PLAIN), lambda: seen_from(PLAIN, (0, 0)), lambda: seen_from((".",), (0, 0))):
            first = ask()
            self.assertIs(type(first), list)
            kept = list(first)
            first.append("more")
            self.assertEqual(ask(), kept)
            self.assertIsNot(ask(), ask())
        self.assertEqual(PLAIN, before)


if __name__ == "__main__":
    unittest.main()
