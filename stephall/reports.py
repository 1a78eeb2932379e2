"""Rows of deeds done again from the beginning: reports, load and need."""

from stephall.errors import HallError
from stephall.halls import AT_SEEKERS, Hall
from stephall.plans import Plan


def done_again(plan, deeds):
    """The hall to which a row of deeds leads, or the first refusal."""
    hall = Hall(plan)
    for deed in deeds:
        hall.do(deed)
    return hall


def answer_of(hall, deed):
    """What a hall answers to a deed, or None where it refuses it."""
    try:
        return hall.do(deed)
    except HallError:
        return None


def judged(plan, report):
    """The number of the first pair of a report that is not so, or None."""
    hall = Hall(plan)
    for place, (deed, answer) in enumerate(report):
        if answer_of(hall, deed) != answer:
            return place
    return None


def load(plan, deeds):
    """The greatest number of seekers held behind a deed, and the first place of it, where there are enough of them."""
    lines = list(plan.lines)
    hall = Hall(Plan(plan.long, lines, len(lines), list(plan.groups)))
    most = (0, None)
    for place, deed in enumerate(deeds):
        if at_seekers(deed):
            continue
        answer_of(hall, deed)
        many = len(lines) - hall.paper(AT_SEEKERS).count("free")
        if many > most[0]:
            most = (many, place)
    return most


def at_seekers(deed):
    """Whether a deed sticks or mends a seeker."""
    return deed[0] in ("stick", "mend") and deed[1] == AT_SEEKERS


def need(plan, deeds):
    """How many seekers are enough for nobody to wait."""
    return max(load(plan, deeds)[0], 1)
