"""[1.1] and the heading sandreckoner/errors.py."""

import unittest

from sandreckoner import errors

NAMES = ["NotAllowed", "BadForm", "BadRange", "TooLarge", "Missing", "Ring", "NoSteps"]


class ErrorsTest(unittest.TestCase):
    def test_base_class(self):
        self.assertEqual(errors.ReckonError.__bases__, (ValueError,))

    def test_each_class_is_directly_under_the_base_class(self):
        for name in NAMES:
            with self.subTest(name):
                found = getattr(errors, name)
                self.assertEqual(found.__bases__, (errors.ReckonError,))
                self.assertEqual(found.__module__, "sandreckoner.errors")

    def test_each_class_can_be_raised_and_caught_as_the_base_class(self):
        for name in NAMES:
            with self.subTest(name), self.assertRaises(errors.ReckonError):
                raise getattr(errors, name)("some words")


if __name__ == "__main__":
    unittest.main()
