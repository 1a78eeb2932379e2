"""What the tests share."""

import unittest

from stephall import errors

REFUSALS = (
    errors.NoFigure,
    errors.BadPlan,
    errors.NoText,
    errors.NoSwitch,
    errors.NoLine,
    errors.NotSo,
    errors.NothingLeft,
    errors.NoRow,
)

# Far outside of every bound: whole numbers of some fifty figures.
FAR = (10**49 + 7, -(10**49) - 7)

FIGURES = "0123456789"
# Every sign that may be handed in, but figures: from the blank to ~ without the percent sign, and the line end.
OTHER_SIGNS = [chr(k) for k in range(32, 127) if chr(k) not in FIGURES + "%"] + ["\n"]


class HallCase(unittest.TestCase):
    def refused(self, kind, call, *things):
        """Fails unless the call is refused with just this kind."""
        try:
            answer = call(*things)
        except errors.HallError as error:
            self.assertIs(type(error), kind, things)
            self.assertIsInstance(error, ValueError)
            for other in REFUSALS:
                self.assertEqual(isinstance(error, other), other is kind)
        else:
            self.fail(f"{things!r} was answered with {answer!r}")

    def whole(self, number):
        """Fails unless this is an int that is no truth."""
        self.assertIs(type(number), int)
