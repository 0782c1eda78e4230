import unittest

from rerunyard import errors

NAMES = ["TooLong", "NoRow", "NoPlace", "TooDeep", "NoMeasure", "Twice", "Open",
         "NoLog", "NoForm", "NoneYet", "NoThing"]


class Errors(unittest.TestCase):
    def test_run_error_is_a_value_error(self):
        self.assertEqual(errors.RunError.__bases__, (ValueError,))

    def test_each_refusal_stands_straight_under_run_error(self):
        for name in NAMES:
            with self.subTest(name):
                self.assertEqual(getattr(errors, name).__bases__, (errors.RunError,))

    def test_no_refusal_stands_under_another(self):
        for one in NAMES:
            for other in NAMES:
                if one != other:
                    self.assertFalse(issubclass(getattr(errors, one), getattr(errors, other)))


if __name__ == "__main__":
    unittest.main()
