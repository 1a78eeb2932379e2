"""What the tests share."""

import unittest

from stephall import errors
from stephall.figures import dialled
from stephall.halls import Hall
from stephall.plans import Plan

REFUSALS = (
    errors.NoFigure,
    errors.BadPlan,
    errors.NoText,
    errors.NoSwitch,
    errors.NoLine,
    errors.NotSo,
    errors.NothingLeft,
    errors.NoRow,
)

# Far outside of every bound: whole numbers of some fifty figures.
FAR = (10**49 + 7, -(10**49) - 7)

FIGURES = "0123456789"
# Every sign that may be handed in, but figures: from the blank to ~ without the percent sign, and the line end.
OTHER_SIGNS = [chr(k) for k in range(32, 127) if chr(k) not in FIGURES + "%"] + ["\n"]


# Texts that are the number of no line of a plan where numbers have three figures or less, and no where.
NO_NUMBERS = ("0" * 5, "x", "-", "stuck", "free", " ", "\n", "11 ", " 11", "11\n", "1.1", "~" * 20000)


def small_plan():
    return Plan(3, ["111", "112", "113", "121", "211"], 3, [("1", 2), ("2", 1), ("3", 0)])


def calls(line, figures):
    """A line is lifted and dials."""
    return [("lift", line), *dialled(line, figures)]


def at_seekers(word, many):
    return [(word, "", k) for k in range(many)]


# By which deeds line 111 of the small plan comes into each way, in each manner there is.
SCENES = {
    "rests": ("rests", []),
    "waits": ("waits", [*at_seekers("stick", 3), ("lift", "111")]),
    "dials": ("dials", [("lift", "111")]),
    "dials, a pulse": ("dials", [("lift", "111"), ("pulse", "111")]),
    "dials, a switch": ("dials", calls("111", "1")),
    "dials, a figure more": ("dials", calls("111", "11")),
    "rings": ("rings", calls("111", "112")),
    "rung": ("rung", calls("112", "111")),
    "talks, calling": ("talks", [*calls("111", "112"), ("lift", "112")]),
    "talks, called": ("talks", [*calls("112", "111"), ("lift", "111")]),
    "told over": ("told", [("lift", "111"), *[("pulse", "111")] * 11]),
    "told none, a prefix": ("told", calls("111", "9")),
    "told none, a number": ("told", calls("111", "119")),
    "told busy, a group": ("told", calls("111", "3")),
    "told busy, a line": ("told", calls("111", "111")),
}


def scene(name):
    """A hall of the small plan in which line 111 is in a way."""
    hall = Hall(small_plan())
    answers_of(hall, SCENES[name][1])
    return hall


def answers_of(hall, deeds):
    """What comes of some deeds, one behind the other."""
    return [hall.do(deed) for deed in deeds]


def any_plan(chance):
    """A plan of any length with few figures, so that calls meet."""
    long = chance.choice([2, 3, 4])
    numbers = sorted({"".join(chance.choice("1230") for _ in range(long)) for _ in range(chance.choice([1, 3, 6, 12]))})
    prefixes = sorted({number[:size] for number in numbers + ["4444"] for size in range(1, long - 1)})
    chance.shuffle(prefixes)
    groups = [(prefix, chance.choice([0, 1, 1, 2, 3, 10])) for prefix in prefixes[:40] if chance.random() < 0.9]
    return Plan(long, numbers, chance.choice([1, 1, 2, 3, 5]), groups)


def any_deeds(chance, plan, many):
    """A row of deeds at lines that each follow some purpose, at switches, and of some that are no good."""
    purposes = {line: [] for line in plan.lines}
    wheres = ["", "", *[prefix for prefix, switches in plan.groups]]
    deeds = []
    while len(deeds) < many:
        line = chance.choice(plan.lines)
        if chance.random() < 0.06:
            deeds.append((chance.choice(["stick", "mend", "mend"]), chance.choice(wheres), chance.randrange(-1, 4)))
        elif chance.random() < 0.03:
            wrong = [("lift", "x"), ("hang", ""), ("stick", "9", 0), ("mend", "", 99), ("gap", line)]
            deeds.append(chance.choice(wrong))
        elif purposes[line]:
            deeds.append(purposes[line].pop(0))
        else:
            purposes[line] = any_purpose(chance, plan, line)
    return deeds


def any_purpose(chance, plan, line):
    """Deeds that a line may have in mind."""
    kind = chance.choice(["call", "call", "call", "lift", "hang", "hang", "wrong", "over", "short"])
    if kind in ("lift", "hang"):
        return [(kind, line)]
    if kind == "over":
        return [*calls(line, chance.choice(["", line[:1]])), *[("pulse", line)] * 11, ("hang", line)]
    if kind == "wrong":
        return [*calls(line, "".join(chance.choice("1234") for _ in range(plan.long))), ("hang", line)]
    if kind == "short":
        return [*calls(line, chance.choice(plan.lines)[:-1]), ("hang", line)]
    return [*calls(line, chance.choice(plan.lines)), *[("pulse", line)] * chance.randrange(3), ("hang", line)]


def asked(hall, plan):
    """All that can be asked of a hall."""
    wheres = ["", *[prefix for prefix, many in plan.groups]]
    return {
        "lines": {line: of_line(hall, line) for line in plan.lines},
        "wheres": {where: (hall.paper(where), hall.shares(where)) for where in wheres},
        "rest": (hall.waiting(), hall.steps(), hall.deeds()),
    }


def of_line(hall, line):
    """All that can be asked of a line."""
    return (hall.way(line), hall.figures(line), hall.holds(line), hall.other(line), hall.told_paper(line))


class HallCase(unittest.TestCase):
    def refused(self, kind, call, *things):
        """Fails unless the call is refused with just this kind."""
        try:
            answer = call(*things)
        except errors.HallError as error:
            self.assertIs(type(error), kind, things)
            self.assertIsInstance(error, ValueError)
            for other in REFUSALS:
                self.assertEqual(isinstance(error, other), other is kind)
        else:
            self.fail(f"{things!r} was answered with {answer!r}")

    def whole(self, number):
        """Fails unless this is an int that is no truth."""
        self.assertIs(type(number), int)
