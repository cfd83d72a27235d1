"""The eight errors: names, and what each of them is under."""

import unittest

from slabfloor import errors

NAMES = [
    "TooLarge",
    "Ragged",
    "StrangeSign",
    "NoCell",
    "NotBeside",
    "Covered",
    "Uncovered",
    "NoDrawing",
]


class Errors(unittest.TestCase):
    def test_floor_error_is_a_value_error(self):
        self.assertEqual(errors.FloorError.__bases__, (ValueError,))

    def test_each_of_the_eight_is_right_under_floor_error(self):
        for name in NAMES:
            with self.subTest(name=name):
                self.assertEqual(getattr(errors, name).__bases__, (errors.FloorError,))

    def test_none_of_the_eight_is_under_another(self):
        for name in NAMES:
            for other in NAMES:
                with self.subTest(name=name, other=other):
                    under = issubclass(getattr(errors, name), getattr(errors, other))
                    self.assertEqual(under, name == other)

    def test_each_is_raised_and_caught_as_what_it_is(self):
        for name in NAMES:
            kind = getattr(errors, name)
            for caught in (kind, errors.FloorError, ValueError):
                with self.subTest(name=name, caught=caught.__name__):
                    with self.assertRaises(caught):
                        raise kind("refused")

    def test_each_is_defined_in_this_file_under_its_own_name(self):
        for name in NAMES + ["FloorError"]:
            with self.subTest(name=name):
                kind = getattr(errors, name)
                self.assertEqual(kind.__name__, name)
                self.assertEqual(kind.__module__, "slabfloor.errors")


if __name__ == "__main__":
    unittest.main()
