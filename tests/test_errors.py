import unittest

from stephall import errors
from tests.helper import REFUSALS


class Errors(unittest.TestCase):
    def test_hall_error_stands_straight_under_value_error(self):
        self.assertEqual(errors.HallError.__bases__, (ValueError,))

    def test_there_are_eight_refusals(self):
        names = ["NoFigure", "BadPlan", "NoText", "NoSwitch", "NoLine", "NotSo", "NothingLeft", "NoRow"]
        self.assertEqual([kind.__name__ for kind in REFUSALS], names)

    def test_each_refusal_stands_under_hall_error_alone(self):
        for kind in REFUSALS:
            self.assertTrue(issubclass(kind, errors.HallError))
            for other in REFUSALS:
                self.assertEqual(issubclass(kind, other), kind is other)

    def test_each_refusal_can_be_raised_and_taken(self):
        for kind in REFUSALS:
            for taken in (kind, errors.HallError, ValueError):
                with self.assertRaises(taken):
                    raise kind("why")


if __name__ == "__main__":
    unittest.main()
