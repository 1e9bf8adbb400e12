"""The classes of refusals (point 0.2 and the interface)."""

import unittest

from deadhand import errors

NAMES = [
    "NoText", "OutOfBound", "Taken", "NoPerson", "Gone", "Never", "TooDeep",
    "NoLand", "NoLayer", "NoSeat", "Shut", "NotWhole", "Short", "NothingThere",
]


class ErrorsTest(unittest.TestCase):

    def test_land_error_is_a_value_error(self):
        self.assertEqual(errors.LandError.__mro__[1], ValueError)

    def test_each_class_stands_under_land_error_alone(self):
        for name in NAMES:
            with self.subTest(name):
                kind = getattr(errors, name)
                self.assertEqual(kind.__name__, name)
                self.assertEqual(kind.__mro__, (kind,) + errors.LandError.__mro__)

    def test_no_class_is_another_one(self):
        self.assertEqual(len({getattr(errors, name) for name in NAMES}), 14)

    def test_each_is_raised_and_taken_by_its_name_and_by_what_stands_above(self):
        for name in NAMES:
            kind = getattr(errors, name)
            for above in (kind, errors.LandError, ValueError):
                with self.subTest(name, above=above):
                    with self.assertRaises(above):
                        raise kind("why")

    def test_no_other_class_is_taken(self):
        for name in NAMES:
            for other in NAMES:
                if other != name:
                    with self.subTest(name, other=other):
                        self.assertFalse(issubclass(getattr(errors, name), getattr(errors, other)))


if __name__ == "__main__":
    unittest.main()
