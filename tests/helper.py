"""What the tests share."""

import random
import unittest

from stephall import errors
from stephall.desk import Desk
from stephall.figures import dialled, figure_of
from stephall.halls import Hall
from stephall.plans import Plan, plan_text

REFUSALS = (
    errors.NoFigure,
    errors.BadPlan,
    errors.NoText,
    errors.NoSwitch,
    errors.NoLine,
    errors.NotSo,
    errors.NothingLeft,
    errors.NoRow,
)

# Far outside of every bound: whole numbers of some fifty figures.
FAR = (10**49 + 7, -(10**49) - 7)

FIGURES = "0123456789"
# Every sign that may be handed in, but figures: from the blank to ~ without the percent sign, and the line end.
OTHER_SIGNS = [chr(k) for k in range(32, 127) if chr(k) not in FIGURES + "%"] + ["\n"]


# Texts that are the number of no line of a plan where numbers have three figures or less, and no where.
NO_NUMBERS = ("0" * 5, "x", "-", "stuck", "free", " ", "\n", "11 ", " 11", "11\n", "1.1", "~" * 20000)


def small_plan():
    return Plan(3, ["111", "112", "113", "121", "211"], 3, [("1", 2), ("2", 1), ("3", 0)])


def calls(line, figures):
    """A line is lifted and dials."""
    return [("lift", line), *dialled(line, figures)]


def at_seekers(word, many):
    return [(word, "", k) for k in range(many)]


# By which deeds line 111 of the small plan comes into each way, in each manner there is.
SCENES = {
    "rests": ("rests", []),
    "waits": ("waits", [*at_seekers("stick", 3), ("lift", "111")]),
    "dials": ("dials", [("lift", "111")]),
    "dials, a pulse": ("dials", [("lift", "111"), ("pulse", "111")]),
    "dials, a switch": ("dials", calls("111", "1")),
    "dials, a figure more": ("dials", calls("111", "11")),
    "rings": ("rings", calls("111", "112")),
    "rung": ("rung", calls("112", "111")),
    "talks, calling": ("talks", [*calls("111", "112"), ("lift", "112")]),
    "talks, called": ("talks", [*calls("112", "111"), ("lift", "111")]),
    "told over": ("told", [("lift", "111"), *[("pulse", "111")] * 11]),
    "told none, a prefix": ("told", calls("111", "9")),
    "told none, a number": ("told", calls("111", "119")),
    "told busy, a group": ("told", calls("111", "3")),
    "told busy, a line": ("told", calls("111", "111")),
}


def scene(name):
    """A hall of the small plan in which line 111 is in a way."""
    hall = Hall(small_plan())
    answers_of(hall, SCENES[name][1])
    return hall


def answers_of(hall, deeds):
    """What comes of some deeds, one behind the other."""
    return [hall.do(deed) for deed in deeds]


def any_plan(chance):
    """A plan of any length with few figures, so that calls meet."""
    long = chance.choice([2, 3, 4])
    many = chance.choice([1, 4, 7, 7, 9, 12, 12, 12])
    numbers = sorted({"".join(chance.choice("1230") for _ in range(long)) for _ in range(many)})
    prefixes = sorted({number[:size] for number in numbers + ["4444"] for size in range(1, long - 1)})
    chance.shuffle(prefixes)
    groups = [(prefix, chance.choice([0, 1, 2, 3, 3, 10])) for prefix in prefixes[:40] if chance.random() < 0.95]
    return Plan(long, numbers, chance.choice([1, 2, 3, 5, 8]), groups)


def any_deeds(chance, plan, many):
    """A row of deeds at lines that each do what befits their way, at switches, and of some that are no good."""
    hall = Hall(plan)
    aims = {line: [] for line in plan.lines}
    wheres = ["", "", *[prefix for prefix, switches in plan.groups]]
    deeds = []
    while len(deeds) < many:
        line = chance.choice(plan.lines)
        if chance.random() < 0.04:
            deed = (chance.choice(["stick", "mend", "mend"]), chance.choice(wheres), chance.randrange(-1, 4))
        elif chance.random() < 0.04:
            deed = chance.choice([("lift", "x"), ("hang", ""), ("stick", "9", 0), ("mend", "", 99), ("gap", line),
                                  ("lift", line), ("pulse", line)])
        else:
            deed = fit_deed(chance, hall, line, aims)
        if deed is not None:
            deeds.append(deed)
            answer_or_kind(hall, deed)
    return deeds


# How likely it is that a line in a way is left as it is, and the deed that befits it else.
FIT = {"rests": (0.93, "lift"), "waits": (0.9, "hang"), "rings": (0.8, "hang"), "rung": (0.4, "lift"),
       "talks": (0.7, "hang"), "told": (0.3, "hang")}


def fit_deed(chance, hall, line, aims):
    """A deed that befits the way of a line, or None."""
    way = hall.way(line)
    if way != "dials":
        stay, word = FIT[way]
        aims[line] = any_aim(chance, list(aims), line)
        return None if chance.random() < stay else (word, line)
    if not aims[line]:
        return ("hang", line)
    return aims[line].pop(0)


def any_aim(chance, lines, line):
    """Deeds that a line with tone may have in mind."""
    figures = chance.choice(lines)
    kind = chance.choice(["call", "call", "call", "call", "call", "wrong", "over", "short"])
    if kind == "wrong":
        return dialled(line, "".join(chance.choice("1234") for _ in figures))
    if kind == "over":
        return [*dialled(line, figures[:chance.randrange(len(figures))]), *[("pulse", line)] * 11]
    if kind == "short":
        return dialled(line, figures[:-1])
    return dialled(line, figures)


def row_of(deed):
    """The row of the desk that does a deed."""
    word, where, *k = deed
    return " ".join([word, where or "-", *[str(one) for one in k]])


def desk_in(name):
    """A desk of the small plan at which line 111 is in a way."""
    desk = Desk(plan_text(small_plan()))
    for deed in SCENES[name][1]:
        desk.say(row_of(deed))
    return desk


def asked_at(desk, plan):
    """All that can be asked at a desk, by the rows."""
    wheres = ["-", *[prefix for prefix, many in plan.groups]]
    rows = [f"{word} {line}" for word in ("way", "figures", "other", "holds", "why") for line in plan.lines]
    rows += [f"{word} {where}" for word in ("paper", "shares") for where in wheres]
    rows += ["waiting", "steps", "calls", "waits"]
    return {row: desk.say(row) for row in rows}


def asked(hall, plan):
    """All that can be asked of a hall."""
    wheres = ["", *[prefix for prefix, many in plan.groups]]
    return {
        "lines": {line: of_line(hall, line) for line in plan.lines},
        "wheres": {where: (hall.paper(where), hall.shares(where)) for where in wheres},
        "rest": (hall.waiting(), hall.steps(), hall.deeds()),
    }


def of_line(hall, line):
    """All that can be asked of a line."""
    return (hall.way(line), hall.figures(line), hall.holds(line), hall.other(line), hall.told_paper(line))


def answer_or_kind(hall, deed):
    """What a hall answers to a deed, or the kind of its refusal."""
    try:
        return hall.do(deed)
    except errors.HallError as error:
        return type(error)


def any_rows(rows, many, first=1000):
    """Some plans, each with a row of deeds."""
    for seed in range(first, first + rows):
        chance = random.Random(seed)
        plan = any_plan(chance)
        yield plan, any_deeds(chance, plan, many)


class Book:
    """Another hall, kept as a book of calls: who is in which way is told by the calls alone."""

    def __init__(self, plan):
        self.plan = plan
        self.sizes = {"": plan.seekers, **dict(plan.groups)}
        self.calls = []
        self.waiting = []
        self.told = {}
        self.stuck = set()
        self.mark = 0
        self.shares = {where: [0] * many for where, many in self.sizes.items()}
        self.stands = [0] * plan.seekers
        self.steps = [0] * plan.seekers
        self.done = []

    def call_of(self, line):
        """The call in which a line is, on either end."""
        found = [call for call in self.calls if line in (call["caller"], call["called"])]
        assert len(found) <= 1
        return found[0] if found else None

    def way(self, line):
        if line in self.waiting:
            return "waits"
        if line in self.told:
            return "told"
        call = self.call_of(line)
        if call is None:
            return "rests"
        if call["talk"]:
            return "talks"
        if call["caller"] != line:
            return "rung"
        return "dials" if call["called"] is None else "rings"

    def paper(self, where):
        holders = {pair: call["caller"] for call in self.calls for pair in call["held"]}
        idle = {True: "stuck", False: "free"}
        return tuple(holders.get((where, k), idle[(where, k) in self.stuck]) for k in range(self.sizes[where]))

    def of_line(self, line):
        call = self.call_of(line)
        figures, paper = self.told.get(line, ("", None))
        if call is None:
            return (self.way(line), figures, [], None, paper)
        if call["caller"] == line:
            return (self.way(line), call["figures"], call["held"], call["called"], None)
        return (self.way(line), "", [], call["caller"], None)

    def asked(self):
        return {
            "lines": {line: self.of_line(line) for line in self.plan.lines},
            "wheres": {where: (self.paper(where), self.shares[where]) for where in self.sizes},
            "rest": (self.waiting, self.steps, self.done),
        }

    def refusal(self, deed):
        """With what a deed is refused, or None."""
        if deed[0] in ("stick", "mend"):
            return None if deed[2] in range(self.sizes.get(deed[1], 0)) else errors.NoSwitch
        word, line = deed
        if line not in self.plan.lines:
            return errors.NoLine
        way = self.way(line)
        idle = way in ("rests", "rung")
        if word == "lift" and idle or word == "hang" and not idle or word == "pulse" and way == "dials":
            return None
        if word == "gap" and way == "dials" and self.call_of(line)["pulses"]:
            return None
        return errors.NotSo

    def do(self, deed):
        come = getattr(self, deed[0])(*deed[1:])
        self.done.append(deed)
        while self.waiting and "free" in self.paper(""):
            line, paper = self.waiting.pop(0), self.paper("")
            while paper[self.mark] != "free":
                self.mark = (self.mark + 1) % len(paper)
            k = self.mark
            self.mark = (self.mark + 1) % len(paper)
            steps = 0
            while self.plan.lines[self.stands[k]] != line:
                self.stands[k] = (self.stands[k] + 1) % len(self.plan.lines)
                steps += 1
            self.steps[k] += steps
            self.shares[""][k] += 1
            self.calls.append({"caller": line, "called": None, "talk": False, "pulses": 0, "figures": "",
                               "held": [("", k)]})
            come.append(("tone", line, k, steps))
        return come

    def stick(self, where, k):
        self.stuck.add((where, k))
        return []

    def mend(self, where, k):
        self.stuck.discard((where, k))
        return []

    def lift(self, line):
        call = self.call_of(line)
        if call:
            call["talk"] = True
            return [("talks", call["caller"], line)]
        self.waiting.append(line)
        return [("waits", line)]

    def pulse(self, line):
        call = self.call_of(line)
        call["pulses"] += 1
        return self.tell(call, ("over", call["figures"])) if call["pulses"] == 11 else []

    def gap(self, line):
        call = self.call_of(line)
        call["figures"] += figure_of(call["pulses"])
        call["pulses"] = 0
        figures = call["figures"]
        left = self.plan.long - len(figures)
        if left == 1:
            return [("figure", line, figures)]
        if left == 0 and figures in self.plan.lines:
            if self.way(figures) != "rests":
                return self.tell(call, ("line", figures, self.way(figures)))
            call["called"] = figures
            return [("rings", line, figures)]
        if left == 0 or figures not in self.sizes:
            return self.tell(call, ("none", figures))
        paper = self.paper(figures)
        if "free" not in paper:
            return self.tell(call, ("group", figures, paper))
        k = paper.index("free")
        call["held"].append((figures, k))
        self.shares[figures][k] += 1
        return [("takes", line, figures, k)]

    def tell(self, call, paper):
        self.calls.remove(call)
        self.told[call["caller"]] = (call["figures"], paper)
        if paper[0] in ("line", "group"):
            return [("busy", call["caller"], paper)]
        return [(paper[0], call["caller"], paper[1])]

    def hang(self, line):
        come = [("rests", line)]
        call = self.call_of(line)
        self.told.pop(line, None)
        if line in self.waiting:
            self.waiting.remove(line)
        if call:
            self.calls.remove(call)
            other = call["called"] if call["caller"] == line else call["caller"]
            if call["talk"]:
                self.waiting.append(other)
                come.append(("waits", other))
            elif other:
                come.append(("quiet", other))
        return come


class HallCase(unittest.TestCase):
    def refused(self, kind, call, *things):
        """Fails unless the call is refused with just this kind."""
        try:
            answer = call(*things)
        except errors.HallError as error:
            self.assertIs(type(error), kind, things)
            self.assertIsInstance(error, ValueError)
            for other in REFUSALS:
                self.assertEqual(isinstance(error, other), other is kind)
        else:
            self.fail(f"{things!r} was answered with {answer!r}")

    def whole(self, number):
        """Fails unless this is an int that is no truth."""
        self.assertIs(type(number), int)
