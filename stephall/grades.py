"""How many switches of a group are enough for a row of deeds."""

from stephall.errors import NoSwitch
from stephall.halls import Hall
from stephall.plans import MOST_SWITCHES, Plan
from stephall.reports import answer_of, most_held


def group_load(plan, deeds, prefix):
    """The greatest number of a group's switches held behind a deed, and the first place of it, or NoSwitch."""
    hall = roomy_hall(plan, prefix)
    return most_held(hall, at_lines_alone(deeds), prefix)


def group_need(plan, deeds, prefix):
    """How many switches of a group are enough, None where ten are not, or NoSwitch."""
    hall = roomy_hall(plan, prefix)
    for deed in at_lines_alone(deeds):
        if deed is not None and is_busy(answer_of(hall, deed), prefix):
            return None
    return group_load(plan, deeds, prefix)[0]


def roomy_hall(plan, prefix):
    """A hall with as many seekers as lines, ten switches in each group, or NoSwitch where the prefix is no group's."""
    prefixes = [one for one, many in plan.groups]
    if prefix not in prefixes:
        raise NoSwitch(f"there is no group {prefix!r}")
    groups = [(one, MOST_SWITCHES) for one in prefixes]
    return Hall(Plan(plan.long, list(plan.lines), len(plan.lines), groups))


def at_lines_alone(deeds):
    """The deeds with None for each that sticks or mends, so that places stay."""
    return [None if deed[0] in ("stick", "mend") else deed for deed in deeds]


def is_busy(answer, prefix):
    """Whether somebody is told busy by the group of this prefix."""
    return any([come[0] == "busy" and come[2][:2] == ("group", prefix) for come in answer or []])
