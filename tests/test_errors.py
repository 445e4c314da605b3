"""The refusals: TipError and the eight classes under it alone."""

import unittest

from tipwell import errors

NAMES = ("NoNet", "NoVessel", "TooLong", "TooMany", "TooMuch", "NoText", "NoRow", "Nothing")


class Errors(unittest.TestCase):
    def test_tip_error_is_a_value_error(self):
        self.assertTrue(issubclass(errors.TipError, ValueError))
        self.assertEqual(errors.TipError.__bases__, (ValueError,))

    def test_each_is_under_tip_error_alone(self):
        for name in NAMES:
            with self.subTest(name=name):
                self.assertEqual(getattr(errors, name).__bases__, (errors.TipError,))

    def test_none_is_under_another(self):
        for name in NAMES:
            for other in NAMES:
                if name != other:
                    with self.subTest(name=name, other=other):
                        self.assertFalse(issubclass(getattr(errors, name), getattr(errors, other)))

    def test_each_is_raised_and_caught_as_a_refusal(self):
        for name in NAMES:
            with self.subTest(name=name):
                with self.assertRaises(errors.TipError):
                    raise getattr(errors, name)("why")


if __name__ == "__main__":
    unittest.main()
