import unittest

from partline import errors


class ErrorsTest(unittest.TestCase):
    def test_any_refusal_is_a_value_error(self):
        self.assertEqual(errors.PressError.__bases__, (ValueError,))

    def test_each_refusal_is_straight_under_press_error(self):
        for name in ("BadPlan", "BadSign", "BadCount", "BadFigures", "Ended"):
            with self.subTest(name):
                self.assertEqual(getattr(errors, name).__bases__, (errors.PressError,))

    def test_errors_are_defined_in_their_file(self):
        for name in ("PressError", "BadPlan", "BadSign", "BadCount", "BadFigures", "Ended"):
            with self.subTest(name):
                self.assertEqual(getattr(errors, name).__module__, "partline.errors")
                self.assertEqual(getattr(errors, name).__name__, name)

    def test_errors_carry_their_words(self):
        for name in ("PressError", "BadPlan", "BadSign", "BadCount", "BadFigures", "Ended"):
            with self.subTest(name):
                self.assertEqual(str(getattr(errors, name)("so")), "so")
