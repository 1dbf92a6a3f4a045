import unittest

from topslip import errors


class Errors(unittest.TestCase):
    def test_any_refusal_is_a_value_error(self):
        self.assertEqual(errors.SlipError.__bases__, (ValueError,))

    def test_each_refusal_stands_under_slip_error_alone(self):
        for name in ("BadNumber", "BadDepth", "BadKey", "BadSpan", "NotTaken"):
            with self.subTest(name=name):
                self.assertEqual(getattr(errors, name).__bases__, (errors.SlipError,))

    def test_each_class_bears_its_name(self):
        for name in ("SlipError", "BadNumber", "BadDepth", "BadKey", "BadSpan", "NotTaken"):
            with self.subTest(name=name):
                self.assertEqual(getattr(errors, name).__name__, name)


if __name__ == "__main__":
    unittest.main()
