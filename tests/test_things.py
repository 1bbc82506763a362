"""Names, tuples of so many, what rises, and lots of so many [2]."""

import itertools
import unittest

from helper import GREAT, all_kinds
from rigeyes.things import is_name, is_rising, is_row, lots_of
from rigeyes.whole import is_within


class Names(unittest.TestCase):
    def test_names(self):
        for thing in ("a", "z", "ab", "zz", "abcdefgh", "ijklmnop", "qrstuvwx", "yz"):
            self.assertIs(is_name(thing), True, thing)

    def test_of_one_to_eight_letters(self):
        for many in range(12):
            self.assertIs(is_name("q" * many), 1 <= many <= 8, many)

    def test_other_signs(self):
        for sign in "AZ09 _-.`{@\n\t\u00e9\u00df\u0430\uff41\u00aa":
            for thing in (sign, "a" + sign, sign + "a", "a" + sign + "b"):
                self.assertIs(is_name(thing), False, thing)

    def test_other_things(self):
        for thing in all_kinds():
            self.assertIs(is_name(thing), thing in ("a", "ab"), thing)
        for thing in (("a", "b"), ["a"], ("a",), [], ()):
            self.assertIs(is_name(thing), False, thing)


class Rows(unittest.TestCase):
    def test_tuples_of_so_many(self):
        for many, length in itertools.product(range(5), repeat=2):
            self.assertIs(is_row((None,) * length, many), many == length)
            self.assertIs(is_row([None] * length, many), False)
            self.assertIs(is_row("a" * length, many), False)

    def test_other_things(self):
        for thing in (None, True, 2, GREAT, "ab", [1, 2]):
            self.assertIs(is_row(thing, 2), False, thing)


class Within(unittest.TestCase):
    def test_from_least_to_greatest(self):
        for number in range(-10, 11):
            self.assertIs(is_within(number, -3, 5), -3 <= number <= 5)
        for thing in (None, True, False, "", "1", (1,), [1], GREAT, -GREAT):
            self.assertIs(is_within(thing, -3, 5), False, thing)


class Rising(unittest.TestCase):
    def test_each_before_the_next(self):
        pairs = [("a", "c"), ("b", "a")]
        for things in ((), ("a",), ("a", "b"), ["a", "ab", "b"], [(), ("a",), ("a", "b"), ("b",)], pairs):
            self.assertIs(is_rising(things), True, things)
        for things in (("a", "a"), ("b", "a"), ["a", "c", "b"], ["b", "a", "c"], ("a", "b", "b"), pairs[::-1]):
            self.assertIs(is_rising(things), False, things)


class Lots(unittest.TestCase):
    def test_all_of_so_many_rising(self):
        for length, many in itertools.product(range(6), range(7)):
            things = list("abcdef"[:length])
            self.assertEqual(lots_of(things, many), list(itertools.combinations(things, many)))
            self.assertEqual(lots_of(things, many), sorted(lots_of(things, many)))


if __name__ == "__main__":
    unittest.main()
