"""The interface's chunkshelf/errors.py."""

import unittest

from chunkshelf import errors

NAMES = ("NoSize", "NoName", "NotThere", "NoPlace", "NoText", "TooLong", "TooMany", "NoNote")


class ErrorsTest(unittest.TestCase):
    def test_shelf_error_stands_under_value_error(self):
        self.assertEqual(errors.ShelfError.__bases__, (ValueError,))

    def test_each_class_stands_under_shelf_error(self):
        for name in NAMES:
            with self.subTest(name=name):
                self.assertTrue(issubclass(getattr(errors, name), errors.ShelfError))

    def test_none_of_the_eight_stands_under_another_one(self):
        for name in NAMES:
            for other in NAMES:
                if name != other:
                    with self.subTest(name=name, other=other):
                        self.assertFalse(issubclass(getattr(errors, name), getattr(errors, other)))

    def test_shelf_error_stands_under_none_of_the_eight(self):
        for name in NAMES:
            with self.subTest(name=name):
                self.assertFalse(issubclass(errors.ShelfError, getattr(errors, name)))

    def test_each_class_is_defined_here_under_its_own_name(self):
        for name in NAMES + ("ShelfError",):
            with self.subTest(name=name):
                self.assertEqual(getattr(errors, name).__name__, name)
                self.assertEqual(getattr(errors, name).__module__, "chunkshelf.errors")

    def test_each_class_is_raised_and_caught_as_any_refusal(self):
        for name in NAMES:
            for caught in (errors.ShelfError, ValueError):
                with self.subTest(name=name, caught=caught), self.assertRaises(caught):
                    raise getattr(errors, name)("a refusal")


if __name__ == "__main__":
    unittest.main()
