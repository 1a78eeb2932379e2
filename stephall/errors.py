"""The refusals of the exchange, a class for each."""


class HallError(ValueError):
    """Any refusal."""


class NoFigure(HallError):
    """A count of pulses, or a text, that tells no figure."""


class BadPlan(HallError):
    """Parts that make no plan."""


class NoText(HallError):
    """A text that is not written as a plan is."""


class NoSwitch(HallError):
    """A seeker, a switch or a group that is not there, or a freeing of one that nobody holds."""


class NoLine(HallError):
    """A line that the plan has not."""


class NotSo(HallError):
    """A deed that the line's way does not allow."""


class NothingLeft(HallError):
    """No deed to be taken back, or to be done again."""


class NoRow(HallError):
    """A row that the desk does not know."""
