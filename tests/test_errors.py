"""The errors: their order, and what they carry."""

import unittest

from gridshapes import errors

NAMES = (
    "NoNumber", "NoVector", "NoPoint", "NoShape", "NoFine", "NoCount", "NoFraction", "NoMenu", "NoFloor", "NoPlace",
    "NoSimple", "NoPiece", "NoWall", "NoCut", "NoMove", "NoMap", "NoClaim", "NoThing", "BadText", "NoMoment",
    "NothingBack", "NoLine")


class Errors(unittest.TestCase):
    def test_each_is_a_shape_error_of_its_own(self):
        for name in NAMES:
            error = getattr(errors, name)
            self.assertTrue(issubclass(error, errors.ShapeError), name)
            self.assertEqual(error.__name__, name)
            self.assertEqual(error.__module__, "gridshapes.errors")
            for other in NAMES:
                if other != name:
                    self.assertFalse(issubclass(error, getattr(errors, other)), (name, other))

    def test_what_stands_above(self):
        self.assertEqual(errors.ShapeError.__bases__, (ValueError,))
        self.assertEqual(errors.TooMany.__bases__, (OverflowError,))
        self.assertFalse(issubclass(errors.TooMany, errors.ShapeError))
        self.assertFalse(issubclass(errors.TooMany, ValueError))

    def test_told_is_the_very_value(self):
        for name in NAMES + ("ShapeError",):
            for value in ([1, 2], None, 0, (), "undo", {"a": 1}, object(), 10 ** 5000):
                error = getattr(errors, name)(value)
                self.assertIs(error.told, value)
                self.assertIsInstance(str(error), str)

    def test_most_is_the_greatest_number(self):
        error = errors.TooMany(60)
        self.assertEqual(error.most, 60)
        self.assertFalse(hasattr(error, "told"))

    def test_they_are_caught_by_what_stands_above(self):
        with self.assertRaises(ValueError):
            raise errors.NoShape(3)
        with self.assertRaises(errors.ShapeError):
            raise errors.NoLine(3)
        with self.assertRaises(OverflowError):
            raise errors.TooMany(60)


if __name__ == "__main__":
    unittest.main()
