"""The error classes of the interface."""

import unittest

from rigeyes import errors
from rigeyes.errors import NoLooker, NoMoment, NoName, NoPlaces, NoWay, RigError, Twice

SIX = (NoPlaces, NoLooker, NoMoment, NoName, NoWay, Twice)


class ErrorClasses(unittest.TestCase):
    def test_rig_error_stands_straight_under_value_error(self):
        self.assertEqual(RigError.__bases__, (ValueError,))

    def test_each_of_the_six_stands_straight_under_rig_error(self):
        for kind in SIX:
            with self.subTest(kind=kind.__name__):
                self.assertEqual(kind.__bases__, (RigError,))

    def test_none_of_the_six_stands_under_another_one(self):
        for one in SIX:
            for other in SIX:
                if one is not other:
                    self.assertFalse(issubclass(one, other), (one, other))

    def test_each_goes_by_its_own_name(self):
        names = ("NoPlaces", "NoLooker", "NoMoment", "NoName", "NoWay", "Twice")
        self.assertEqual(tuple(kind.__name__ for kind in SIX), names)
        for name in names:
            self.assertEqual(getattr(errors, name).__module__, "rigeyes.errors")

    def test_each_can_be_raised_and_caught_as_any_refusal(self):
        for kind in SIX:
            with self.assertRaises(RigError):
                raise kind("why")
            with self.assertRaises(ValueError):
                raise kind("why")


if __name__ == "__main__":
    unittest.main()
