"""Point 2: the error classes."""

import unittest

from drawloom import errors

NAMES = ("BadKernel", "BadLaunch", "BadGraph", "NotInForm", "NotReady", "TooLarge", "BadCode")


class ErrorsTest(unittest.TestCase):
    def test_base_class_is_a_value_error(self):
        self.assertEqual(errors.DrawloomError.__bases__, (ValueError,))

    def test_each_error_is_a_drawloom_error_and_a_value_error(self):
        for name in NAMES:
            error = getattr(errors, name)("told")
            self.assertIsInstance(error, errors.DrawloomError, name)
            self.assertIsInstance(error, ValueError, name)

    def test_no_error_is_an_instance_of_another_class(self):
        for name in NAMES:
            for other in NAMES:
                held = issubclass(getattr(errors, name), getattr(errors, other))
                self.assertEqual(held, name == other, (name, other))

    def test_base_class_is_none_of_the_errors(self):
        for name in NAMES:
            self.assertFalse(issubclass(errors.DrawloomError, getattr(errors, name)), name)

    def test_each_error_derives_from_the_base_class_alone(self):
        for name in NAMES:
            self.assertEqual(getattr(errors, name).__bases__, (errors.DrawloomError,), name)

    def test_errors_have_no_fields(self):
        for name in NAMES:
            self.assertEqual(vars(getattr(errors, name)("told")), {}, name)


if __name__ == "__main__":
    unittest.main()
