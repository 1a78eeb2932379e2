"""Rows of deeds done again from the beginning: reports, load and need."""

from stephall.errors import HallError
from stephall.halls import AT_SEEKERS, Hall
from stephall.plans import Plan


def done_again(plan, deeds):
    """The hall to which a row of deeds leads, or the first refusal."""
    hall = Hall(plan)
    for deed in deeds:
        hall.do(deed)
    return hall


def answer_of(hall, deed):
    """What a hall answers to a deed, or None where it refuses it."""
    try:
        return hall.do(deed)
    except HallError:
        return None


def judged(plan, report):
    """The number of the first pair of a report that is not so, or None."""
    hall = Hall(plan)
    for place, (deed, answer) in enumerate(report):
        if answer_of(hall, deed) != answer:
            return place
    return None


def load(plan, deeds):
    """The greatest number of seekers held behind a deed, and the first place of it, where there are enough of them."""
    lines = list(plan.lines)
    hall = Hall(Plan(plan.long, lines, len(lines), list(plan.groups)))
    return most_held(hall, [None if at_seekers(deed) else deed for deed in deeds], AT_SEEKERS)


def most_held(hall, deeds, where):
    """The greatest number of switches held there behind a deed, and the first place of it.

    None stands for a deed that is left out. No switch there is stuck.
    """
    most = (0, None)
    for place, deed in enumerate(deeds):
        if deed is not None:
            answer_of(hall, deed)
        paper = hall.paper(where)
        many = len(paper) - paper.count("free")
        if many > most[0]:
            most = (many, place)
    return most


def at_seekers(deed):
    """Whether a deed sticks or mends a seeker."""
    return deed[0] in ("stick", "mend") and deed[1] == AT_SEEKERS


def need(plan, deeds):
    """How many seekers are enough for nobody to wait."""
    return max(load(plan, deeds)[0], 1)
