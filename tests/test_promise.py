"""The promise of the whole, for many plans and many rows of deeds."""

import random
import unittest

from stephall import errors
from stephall.figures import figure_of
from stephall.halls import Hall
from tests.helper import HallCase, any_deeds, any_plan, asked, of_line


class Book:
    """Another hall, kept as a book of calls: who is in which way is told by the calls alone."""

    def __init__(self, plan):
        self.plan = plan
        self.sizes = {"": plan.seekers, **dict(plan.groups)}
        self.calls = []
        self.waiting = []
        self.told = {}
        self.stuck = set()
        self.mark = 0
        self.shares = {where: [0] * many for where, many in self.sizes.items()}
        self.stands = [0] * plan.seekers
        self.steps = [0] * plan.seekers
        self.done = []

    def call_of(self, line):
        """The call in which a line is, on either end."""
        found = [call for call in self.calls if line in (call["caller"], call["called"])]
        assert len(found) <= 1
        return found[0] if found else None

    def way(self, line):
        if line in self.waiting:
            return "waits"
        if line in self.told:
            return "told"
        call = self.call_of(line)
        if call is None:
            return "rests"
        if call["talk"]:
            return "talks"
        if call["caller"] != line:
            return "rung"
        return "dials" if call["called"] is None else "rings"

    def paper(self, where):
        holders = {pair: call["caller"] for call in self.calls for pair in call["held"]}
        idle = {True: "stuck", False: "free"}
        return tuple(holders.get((where, k), idle[(where, k) in self.stuck]) for k in range(self.sizes[where]))

    def of_line(self, line):
        call = self.call_of(line)
        figures, paper = self.told.get(line, ("", None))
        if call is None:
            return (self.way(line), figures, [], None, paper)
        if call["caller"] == line:
            return (self.way(line), call["figures"], call["held"], call["called"], None)
        return (self.way(line), "", [], call["caller"], None)

    def asked(self):
        return {
            "lines": {line: self.of_line(line) for line in self.plan.lines},
            "wheres": {where: (self.paper(where), self.shares[where]) for where in self.sizes},
            "rest": (self.waiting, self.steps, self.done),
        }

    def refusal(self, deed):
        """With what a deed is refused, or None."""
        if deed[0] in ("stick", "mend"):
            return None if deed[2] in range(self.sizes.get(deed[1], 0)) else errors.NoSwitch
        word, line = deed
        if line not in self.plan.lines:
            return errors.NoLine
        way = self.way(line)
        idle = way in ("rests", "rung")
        if word == "lift" and idle or word == "hang" and not idle or word == "pulse" and way == "dials":
            return None
        if word == "gap" and way == "dials" and self.call_of(line)["pulses"]:
            return None
        return errors.NotSo

    def do(self, deed):
        come = getattr(self, deed[0])(*deed[1:])
        self.done.append(deed)
        while self.waiting and "free" in self.paper(""):
            line, paper = self.waiting.pop(0), self.paper("")
            while paper[self.mark] != "free":
                self.mark = (self.mark + 1) % len(paper)
            k = self.mark
            self.mark = (self.mark + 1) % len(paper)
            steps = 0
            while self.plan.lines[self.stands[k]] != line:
                self.stands[k] = (self.stands[k] + 1) % len(self.plan.lines)
                steps += 1
            self.steps[k] += steps
            self.shares[""][k] += 1
            self.calls.append({"caller": line, "called": None, "talk": False, "pulses": 0, "figures": "",
                               "held": [("", k)]})
            come.append(("tone", line, k, steps))
        return come

    def stick(self, where, k):
        self.stuck.add((where, k))
        return []

    def mend(self, where, k):
        self.stuck.discard((where, k))
        return []

    def lift(self, line):
        call = self.call_of(line)
        if call:
            call["talk"] = True
            return [("talks", call["caller"], line)]
        self.waiting.append(line)
        return [("waits", line)]

    def pulse(self, line):
        call = self.call_of(line)
        call["pulses"] += 1
        return self.tell(call, ("over", call["figures"])) if call["pulses"] == 11 else []

    def gap(self, line):
        call = self.call_of(line)
        call["figures"] += figure_of(call["pulses"])
        call["pulses"] = 0
        figures = call["figures"]
        left = self.plan.long - len(figures)
        if left == 1:
            return [("figure", line, figures)]
        if left == 0 and figures in self.plan.lines:
            if self.way(figures) != "rests":
                return self.tell(call, ("line", figures, self.way(figures)))
            call["called"] = figures
            return [("rings", line, figures)]
        if left == 0 or figures not in self.sizes:
            return self.tell(call, ("none", figures))
        paper = self.paper(figures)
        if "free" not in paper:
            return self.tell(call, ("group", figures, paper))
        k = paper.index("free")
        call["held"].append((figures, k))
        self.shares[figures][k] += 1
        return [("takes", line, figures, k)]

    def tell(self, call, paper):
        self.calls.remove(call)
        self.told[call["caller"]] = (call["figures"], paper)
        if paper[0] in ("line", "group"):
            return [("busy", call["caller"], paper)]
        return [(paper[0], call["caller"], paper[1])]

    def hang(self, line):
        come = [("rests", line)]
        call = self.call_of(line)
        self.told.pop(line, None)
        if line in self.waiting:
            self.waiting.remove(line)
        if call:
            self.calls.remove(call)
            other = call["called"] if call["caller"] == line else call["caller"]
            if call["talk"]:
                self.waiting.append(other)
                come.append(("waits", other))
            elif other:
                come.append(("quiet", other))
        return come


class AnyDeeds(HallCase):
    def each(self, rows, many):
        """Each deed of many rows with its plan, a hall ahead of it and a book, as long as the hall is the book's."""
        for seed in range(rows):
            chance = random.Random(seed)
            plan = any_plan(chance)
            hall, book = Hall(plan), Book(plan)
            for deed in any_deeds(chance, plan, many):
                yield plan, hall, book, deed

    def test_a_hall_is_as_its_book(self):
        ways, comes, kinds = set(), set(), set()
        for plan, hall, book, deed in self.each(150, 250):
            refusal = book.refusal(deed)
            kinds.add(refusal)
            if refusal is not None:
                self.refused(refusal, hall.do, deed)
            else:
                come = hall.do(deed)
                self.assertEqual(come, book.do(deed), (plan.lines, hall.deeds()))
                comes.update(one[0] for one in come)
            self.assertEqual(asked(hall, plan), book.asked(), hall.deeds())
            ways.update(hall.way(line) for line in plan.lines)
        # Else the rows would be poor ones.
        self.assertEqual(ways, {"rests", "waits", "dials", "rings", "rung", "talks", "told"})
        words = "waits tone talks over none takes busy figure rings rests quiet".split()
        self.assertEqual(comes, set(words))
        self.assertEqual(kinds, {None, errors.NoLine, errors.NoSwitch, errors.NotSo})

    def walked(self, rows, many):
        """Each deed that is done with its hall behind it, all that was asked ahead of it, and what came of it."""
        for plan, hall, book, deed in self.each(rows, many):
            if book.refusal(deed) is None:
                ahead = asked(hall, plan)
                book.do(deed)
                yield plan, hall, ahead, hall.do(deed)

    def test_no_line_and_no_switch_is_in_two_calls(self):
        for plan, hall, ahead, come in self.walked(40, 200):
            held = [pair for line in plan.lines for pair in hall.holds(line)]
            self.assertEqual(len(held), len(set(held)))
            for line in plan.lines:
                for where, k in hall.holds(line):
                    self.assertEqual(hall.paper(where)[k], line)
                self.assertEqual(bool(hall.holds(line)), hall.way(line) in ("dials", "rings") or
                                 hall.way(line) == "talks" and hall.figures(line) != "")
                other = hall.other(line)
                self.assertEqual(other is not None, hall.way(line) in ("rings", "rung", "talks"))
                if other is not None:
                    self.assertEqual(hall.other(other), line)
                    self.assertNotEqual(other, line)
            for where in ["", *[prefix for prefix, switches in plan.groups]]:
                named = [(where, k) for k, who in enumerate(hall.paper(where)) if who not in ("free", "stuck")]
                self.assertEqual(sorted(named), sorted(pair for pair in held if pair[0] == where))

    def test_who_rings_or_talks_is_led_to_the_line_that_was_dialled(self):
        for plan, hall, ahead, come in self.walked(40, 200):
            for one in come:
                if one[0] == "takes":
                    self.assertEqual(ahead["wheres"][one[2]][0].index("free"), one[3])
            for line in plan.lines:
                way, figures, holds, other, paper = of_line(hall, line)
                if way == "rings" or way == "talks" and figures:
                    self.assertEqual(other, figures)
                    self.assertEqual([where for where, k in holds], [figures[:k] for k in range(plan.long - 1)])

    def test_who_is_told_busy_is_told_with_a_paper(self):
        for plan, hall, ahead, come in self.walked(60, 200):
            for one in come:
                if one[0] == "busy":
                    kind, figures, paper = one[2]
                    self.assertEqual(hall.told_paper(one[1]), one[2])
                    if kind == "line":
                        self.assertEqual(paper, ahead["lines"][figures][0])
                        self.assertNotEqual(paper, "rests")
                    else:
                        self.assertEqual(paper, ahead["wheres"][figures][0])
                        self.assertNotIn("free", paper)

    def test_hung_up_by_either_end_all_is_free_at_once(self):
        for plan, hall, ahead, come in self.walked(40, 200):
            for one in come:
                if one[0] == "rests":
                    line, other = one[1], ahead["lines"][one[1]][3]
                    self.assertEqual(of_line(hall, line), ("rests", "", [], None, None))
                    tones = {tone[2] for tone in come if tone[0] == "tone"}
                    for end in [line] if other is None else [line, other]:
                        for where, k in ahead["lines"][end][2]:
                            if where or k not in tones:
                                self.assertIn(hall.paper(where)[k], ("free", "stuck"))

    def test_nobody_waits_while_a_seeker_is_free(self):
        for plan, hall, ahead, come in self.walked(60, 200):
            self.assertTrue(not hall.waiting() or "free" not in hall.paper(""))

    def test_who_waits_longest_gets_the_next_seeker(self):
        for plan, hall, ahead, come in self.walked(60, 200):
            waiting = ahead["rest"][0] + [one[1] for one in come if one[0] == "waits"]
            hung = [one[1] for one in come if one[0] == "rests"]
            waiting = [line for line in waiting if line not in hung]
            toned = [one[1] for one in come if one[0] == "tone"]
            self.assertEqual(toned + hall.waiting(), waiting)
            # A deed frees one seeker at most, and lets one line wait at most.
            self.assertLessEqual(len(toned), 1)


if __name__ == "__main__":
    unittest.main()
