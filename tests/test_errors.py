"""The interface, brimful/errors.py: all twelve classes."""

import unittest

from brimful import errors

NAMES = ["BadStep", "BadMemory", "BadSource", "BadText", "TooLong", "BadWord", "BadGate", "BadTree",
         "Busy", "BadTicket", "BadLine"]


class ErrorsTest(unittest.TestCase):
    def test_base_class_is_a_value_error(self):
        self.assertTrue(issubclass(errors.BrimfulError, ValueError))

    def test_each_class_is_under_the_base_class_and_value_error(self):
        for name in NAMES:
            with self.subTest(name):
                error = getattr(errors, name)
                self.assertTrue(issubclass(error, errors.BrimfulError))
                self.assertIsNot(error, errors.BrimfulError)
                self.assertTrue(issubclass(error, ValueError))

    def test_no_class_is_under_another_than_the_base_class(self):
        for name in NAMES:
            for other in NAMES:
                if name != other:
                    with self.subTest(name=name, other=other):
                        self.assertFalse(issubclass(getattr(errors, name), getattr(errors, other)))

    def test_errors_are_defined_in_their_file(self):
        for name in NAMES + ["BrimfulError"]:
            self.assertEqual(getattr(errors, name).__module__, "brimful.errors")

    def test_errors_can_be_raised_with_a_message(self):
        for name in NAMES:
            with self.assertRaises(errors.BrimfulError) as caught:
                raise getattr(errors, name)("why")
            self.assertEqual(str(caught.exception), "why")


if __name__ == "__main__":
    unittest.main()
