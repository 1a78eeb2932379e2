"""Figures told by pulses, and the deeds that dial them."""

from stephall.checks import within
from stephall.errors import NoFigure

# In the order of their pulses: the first is told by one, the last by ten.
FIGURES = ("1", "2", "3", "4", "5", "6", "7", "8", "9", "0")


def figure_of(many):
    """The figure that so many pulses tell, or NoFigure."""
    if not within(many, 1, len(FIGURES)):
        raise NoFigure("a figure has 1 to 10 pulses")
    return FIGURES[many - 1]


def pulses_of(figure):
    """How many pulses tell a figure, or NoFigure."""
    if figure not in FIGURES:
        raise NoFigure(f"{figure!r} is no figure")
    return FIGURES.index(figure) + 1


def dialled(line, figures):
    """The deeds by which a line dials figures, or NoFigure."""
    deeds = []
    for figure in figures:
        deeds.extend([("pulse", line)] * pulses_of(figure))
        deeds.append(("gap", line))
    return deeds
