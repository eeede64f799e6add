"""The classes of errors.py: where each stands, and the value that it has."""

import unittest

from seamboard import errors

VALUES = {
    "BadBoard": None, "BadFlips": "place", "BadLit": "place", "BadFaces": "place", "BadCosts": "place",
    "BadTold": "number", "BadStory": "number", "BadCount": None, "Odd": None, "TooMany": None,
    "BadName": None, "NoPoint": None, "BadText": "row",
}


class Errors(unittest.TestCase):
    def test_a_seam_error_is_a_value_error(self):
        self.assertEqual(errors.SeamError.__bases__, (ValueError,))
        self.assertEqual(errors.SeamError.__module__, "seamboard.errors")

    def test_each_class_is_a_seam_error_defined_here(self):
        for name in VALUES:
            with self.subTest(name):
                found = getattr(errors, name)
                self.assertTrue(issubclass(found, errors.SeamError))
                self.assertEqual(found.__name__, name)
                self.assertEqual(found.__module__, "seamboard.errors")

    def test_none_is_under_another_one(self):
        for name in VALUES:
            for other in VALUES:
                if name != other:
                    with self.subTest(name, other=other):
                        self.assertFalse(issubclass(getattr(errors, name), getattr(errors, other)))
            self.assertFalse(issubclass(errors.SeamError, getattr(errors, name)))

    def test_the_value_is_set_when_the_object_is_made(self):
        for name, value in VALUES.items():
            if value is None:
                continue
            for worth in (0, 1, 49):
                with self.subTest(name, worth=worth):
                    error = getattr(errors, name)(worth)
                    self.assertEqual(vars(error), {value: worth})
                    self.assertIsInstance(str(error), str)

    def test_the_others_have_no_such_value(self):
        for name, value in VALUES.items():
            if value is None:
                with self.subTest(name):
                    self.assertEqual(vars(getattr(errors, name)("a text")), {})


if __name__ == "__main__":
    unittest.main()
