"""The refusals: twelve classes under RoofError, none under another."""

import unittest

from shinglelap import errors

NAMES = (
    "BadMeasure", "UnknownCourse", "NotFilled", "NearBroken", "FarBroken", "BadHeight",
    "NoRoof", "NotRoof", "RoofFull", "BareRoof", "DeedsSpent", "NoDeed",
)


class ErrorsTest(unittest.TestCase):
    def test_roof_error_is_a_value_error(self):
        self.assertTrue(issubclass(errors.RoofError, ValueError))
        with self.assertRaises(ValueError):
            raise errors.RoofError("words")

    def test_each_is_taken_as_roof_error_and_as_value_error(self):
        for name in NAMES:
            for taken in (getattr(errors, name), errors.RoofError, ValueError):
                with self.subTest(name=name, taken=taken.__name__):
                    with self.assertRaises(taken):
                        raise getattr(errors, name)("words")

    def test_none_is_taken_as_another(self):
        for name in NAMES:
            for other in NAMES:
                if name != other:
                    with self.subTest(name=name, other=other):
                        self.assertFalse(issubclass(getattr(errors, name), getattr(errors, other)))

    def test_roof_error_is_none_of_the_twelve(self):
        for name in NAMES:
            with self.subTest(name=name):
                self.assertFalse(issubclass(errors.RoofError, getattr(errors, name)))

    def test_there_are_twelve_and_each_bears_its_name(self):
        self.assertEqual(len(NAMES), 12)
        for name in NAMES + ("RoofError",):
            self.assertEqual(getattr(errors, name).__name__, name)


if __name__ == "__main__":
    unittest.main()
