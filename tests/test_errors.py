"""Point 2: the exceptions of the program."""

import unittest

from floodmark.errors import BadBook, BadCommand, BadRun, BadSystem, FloodError, OutOfRange


class ErrorsTest(unittest.TestCase):

    def test_base_class_is_a_value_error(self):
        self.assertTrue(issubclass(FloodError, ValueError))
        self.assertEqual(FloodError.__bases__, (ValueError,))

    def test_all_others_are_flood_errors(self):
        for error in (OutOfRange, BadSystem, BadRun, BadBook, BadCommand):
            with self.subTest(error=error.__name__):
                self.assertEqual(error.__bases__, (FloodError,))

    def test_each_can_be_raised_and_caught_as_flood_error(self):
        for error in (FloodError, OutOfRange, BadSystem, BadRun, BadBook, BadCommand):
            with self.subTest(error=error.__name__):
                with self.assertRaises(FloodError):
                    raise error("why")
                with self.assertRaises(ValueError):
                    raise error("why")


if __name__ == "__main__":
    unittest.main()
