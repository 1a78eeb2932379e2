import random
import unittest

from stephall.calls import calls_of, waits_of
from stephall.desk import Desk
from stephall.errors import BadPlan, HallError, NothingLeft, NoText
from stephall.figures import dialled
from stephall.halls import Hall
from stephall.plans import plan_text
from stephall.reports import done_again
from tests.helper import (
    SCENES, HallCase, any_deeds, any_plan, asked_at, desk_in, of_line, row_of, small_plan,
)


def written(come):
    """A tuple that comes of a deed, written by hand."""
    word, line = come[0], come[1]
    if word in ("waits", "rests", "quiet"):
        return f"{word} {line}"
    if word == "tone":
        return f"tone {line} {come[2]} {come[3]}"
    if word == "takes":
        return f"takes {line} {come[2]} {come[3]}"
    if word == "busy":
        return f"busy {line} {why(come[2])}"
    return f"{word} {line} {come[2]}"


def why(paper):
    """A told line's paper, written by hand."""
    if paper is None:
        return "none"
    if paper[0] == "group":
        return f"group {paper[1]}" + "".join(f" {part}" for part in paper[2])
    if paper[0] == "line":
        return f"line {paper[1]} {paper[2]}"
    return f"{paper[0]} {paper[1]}"


def listed(things):
    return " ".join(str(thing) for thing in things) or "none"


def rows_text(rows):
    """Calls or waits, written by hand."""
    return "; ".join(" ".join("-" if part in (None, "") else str(part) for part in row) for row in rows) or "none"


def by_hall(hall, plan):
    """All that a desk tells of a hall, written by hand."""
    told = {}
    for line in plan.lines:
        way, figures, holds, other, paper = of_line(hall, line)
        told[f"way {line}"] = way
        told[f"figures {line}"] = figures or "none"
        told[f"other {line}"] = other or "none"
        told[f"holds {line}"] = listed(f"{where or '-'}:{k}" for where, k in holds)
        told[f"why {line}"] = why(paper)
    for where in ["", *[prefix for prefix, many in plan.groups]]:
        told[f"paper {where or '-'}"] = listed(hall.paper(where))
        told[f"shares {where or '-'}"] = listed(hall.shares(where))
    told["waiting"], told["steps"] = listed(hall.waiting()), listed(hall.steps())
    told["calls"], told["waits"] = rows_text(calls_of(plan, hall.deeds())), rows_text(waits_of(plan, hall.deeds()))
    return told


class DeskCase(HallCase):
    def setUp(self):
        self.desk = Desk(plan_text(small_plan()))

    def says(self, *pairs):
        """Fails unless each row is answered so."""
        for row, answer in pairs:
            told = self.desk.say(row)
            self.assertEqual(told, answer, row)
            self.assertIs(type(told), str)

    def do(self, *rows):
        """What is answered to the last of some rows."""
        return [self.desk.say(row) for row in rows][-1]


class ADesk(DeskCase):
    def test_no_text(self):
        for text in ("", "x", "long 2", "long 2\nseekers 1\n", "long 2\nseekers 01\nline 11", "long  2\nseekers 1",
                     "long 2\nlong 2\nseekers 1\nline 11", " long 2\nseekers 1\nline 11", "long 9\nseekers 1\nline"):
            self.refused(NoText, Desk, text)

    def test_bad_plan(self):
        for text in ("long 2\nseekers 1", "long 9\nseekers 1\nline 11", "long 2\nseekers 0\nline 11",
                     "long 2\nseekers 1\nline 1x", "long 2\nseekers 1\nline 11\nline 11",
                     "long 2\nseekers 1\nline 11\ngroup 1 1", "long 3\nseekers 1\nline 111\ngroup 1 11"):
            self.refused(BadPlan, Desk, text)

    def test_the_rows_of_the_plan_in_any_order(self):
        self.desk = Desk("line 12\nseekers 1\nline 11\nlong 2")
        self.says(("lift 12", "waits 12; tone 12 0 1"), ("way 11", "rests"))

    def test_two_desks_of_one_text(self):
        other = Desk(plan_text(small_plan()))
        ahead = asked_at(other, small_plan())
        self.do("lift 111", "dial 111 112", "lift 112")
        self.assertEqual(asked_at(other, small_plan()), ahead)
        self.refused(NothingLeft, other.say, "back")

    def test_at_first(self):
        self.says(("way 111", "rests"), ("figures 111", "none"), ("other 111", "none"), ("holds 111", "none"),
                  ("why 111", "none"), ("paper -", "free free free"), ("paper 1", "free free"), ("paper 2", "free"),
                  ("paper 3", "none"), ("shares -", "0 0 0"), ("shares 1", "0 0"), ("shares 3", "none"),
                  ("waiting", "none"), ("steps", "0 0 0"), ("calls", "none"), ("waits", "none"))


class Deeds(DeskCase):
    def test_nothing_comes(self):
        self.says(("stick - 0", "ok"), ("mend - 0", "ok"), ("stick 1 1", "ok"), ("mend 1 1", "ok"),
                  ("lift 111", "waits 111; tone 111 0 0"), ("pulse 111", "ok"))

    def test_one_tuple_and_several(self):
        self.says(("stick - 0", "ok"), ("stick - 1", "ok"), ("stick - 2", "ok"), ("lift 211", "waits 211"),
                  ("lift 112", "waits 112"), ("mend - 1", "tone 211 1 4"), ("hang 211", "rests 211; tone 112 1 2"))

    def test_a_call(self):
        self.says(("lift 111", "waits 111; tone 111 0 0"), ("pulse 111", "ok"), ("gap 111", "takes 111 1 0"),
                  ("pulse 111", "ok"), ("gap 111", "figure 111 11"), ("pulse 111", "ok"), ("pulse 111", "ok"),
                  ("gap 111", "rings 111 112"), ("lift 112", "talks 111 112"),
                  ("hang 112", "rests 112; waits 111; tone 111 1 0"), ("hang 111", "rests 111"))

    def test_quiet(self):
        self.do("lift 111", "dial 111 112")
        self.says(("hang 111", "rests 111; quiet 112"))

    def test_over(self):
        self.do("lift 111", *["pulse 111"] * 10)
        self.says(("pulse 111", "over 111 "), ("why 111", "over "), ("figures 111", "none"))
        self.do("lift 112", "dial 112 1", *["pulse 112"] * 10)
        self.says(("pulse 112", "over 112 1"), ("why 112", "over 1"), ("figures 112", "1"))

    def test_over_with_a_tone_behind_it(self):
        self.do("stick - 1", "stick - 2", "lift 111", "lift 112", *["pulse 111"] * 10)
        self.says(("pulse 111", "over 111 ; tone 112 0 1"))

    def test_none(self):
        self.do("lift 111", *["pulse 111"] * 9)
        self.says(("gap 111", "none 111 9"), ("why 111", "none 9"), ("figures 111", "9"))

    def test_busy_by_a_group_without_switches(self):
        self.do("lift 111", *["pulse 111"] * 3)
        self.says(("gap 111", "busy 111 group 3"), ("why 111", "group 3"))

    def test_busy_by_a_group_without_switches_and_a_tone_behind_it(self):
        self.do("stick - 1", "stick - 2", "lift 111", "lift 112", *["pulse 111"] * 3)
        self.says(("gap 111", "busy 111 group 3; tone 112 0 1"))

    def test_busy_by_a_group_with_switches(self):
        self.do("stick 1 1", "lift 111", "dial 111 1", "lift 112", "pulse 112")
        self.says(("gap 112", "busy 112 group 1 111 stuck"), ("why 112", "group 1 111 stuck"))

    def test_busy_by_a_line(self):
        self.do("lift 112", "lift 111", "dial 111 11", "pulse 111", "pulse 111")
        self.says(("gap 111", "busy 111 line 112 dials"), ("why 111", "line 112 dials"))

    def test_switches_of_two_figures(self):
        self.desk = Desk("long 2\nseekers 12\nline 11")
        self.says(("stick - 11", "ok"), ("stick - 9", "ok"), ("stick - 10", "ok"),
                  ("paper -", " ".join(["free"] * 9 + ["stuck"] * 3)))

    def test_each_deed_in_each_way(self):
        done = 0
        for name, (way, deeds) in SCENES.items():
            for deed in (("lift", "111"), ("hang", "111"), ("pulse", "111"), ("gap", "111"), ("stick", "", 0),
                         ("mend", "", 0), ("stick", "1", 0), ("mend", "2", 0)):
                desk, hall = desk_in(name), done_again(small_plan(), deeds)
                try:
                    answer = hall.do(deed)
                except HallError as error:
                    self.refused(type(error), desk.say, row_of(deed))
                else:
                    self.assertEqual(desk.say(row_of(deed)), "; ".join(written(come) for come in answer) or "ok")
                    done += 1
                self.assertEqual(asked_at(desk, small_plan()), by_hall(hall, small_plan()))
        self.assertGreater(done, 60)


class Dial(DeskCase):
    def test_ends_in_ringing(self):
        self.do("lift 111")
        self.says(("dial 111 112", "takes 111 1 0; figure 111 11; rings 111 112"), ("way 111", "rings"))

    def test_ends_in_none(self):
        self.do("lift 111")
        self.says(("dial 111 119", "takes 111 1 0; figure 111 11; none 111 119"), ("way 111", "told"))
        self.do("lift 112")
        self.says(("dial 112 0", "none 112 0"))

    def test_ends_in_busy(self):
        self.do("lift 111")
        self.says(("dial 111 111", "takes 111 1 0; figure 111 11; busy 111 line 111 dials"))
        self.do("lift 112")
        self.says(("dial 112 3", "busy 112 group 3"))
        self.do("lift 113", "dial 113 2", "lift 121")
        self.says(("dial 121 211", "busy 121 group 2 113"))

    def test_ends_while_the_line_still_dials(self):
        self.do("lift 111")
        self.says(("dial 111 1", "takes 111 1 0"), ("way 111", "dials"), ("dial 111 1", "figure 111 11"),
                  ("way 111", "dials"), ("dial 111 2", "rings 111 112"))
        self.do("lift 113")
        self.says(("dial 113 21", "takes 113 2 0; figure 113 21"))

    def test_of_more_figures_than_the_line_dials(self):
        self.do("lift 111")
        self.says(("dial 111 1125555", "takes 111 1 0; figure 111 11; rings 111 112"))
        self.assertEqual(self.done(), 8)
        self.do("lift 113")
        self.says(("dial 113 92", "none 113 9"), ("figures 113", "9"))
        self.do("lift 121")
        self.says(("dial 121 " + "3" * 15000, "busy 121 group 3"))

    def done(self):
        """How many deeds are done; they are taken back and done again."""
        many = 0
        try:
            while True:
                self.desk.say("back")
                many += 1
        except NothingLeft:
            for time in range(many):
                self.desk.say("again")
        return many

    def test_with_a_tone_for_another(self):
        self.do("stick - 1", "stick - 2", "lift 111", "lift 112")
        self.says(("dial 111 13", "takes 111 1 0; figure 111 13"), ("dial 111 9", "none 111 139; tone 112 0 1"),
                  ("dial 112 3", "busy 112 group 3"))

    def test_behind_pulses(self):
        self.do("lift 111", "pulse 111")
        self.says(("dial 111 1", "takes 111 2 0"))
        self.do("pulse 111")
        self.says(("dial 111 05", "over 111 2"))
        self.assertEqual(self.done(), 1 + 1 + 2 + 1 + 10)

    def test_nought_is_ten_pulses(self):
        self.desk = Desk("long 2\nseekers 1\nline 00\nline 11")
        self.do("lift 11")
        self.says(("dial 11 00", "figure 11 0; rings 11 00"))
        self.assertEqual(self.done(), 23)

    def test_as_the_deeds_one_by_one(self):
        for seed in range(60):
            chance = random.Random(8000 + seed)
            plan = any_plan(chance)
            desk, hall = Desk(plan_text(plan)), Hall(plan)
            line = chance.choice(plan.lines)
            for deed in any_deeds(chance, plan, 60):
                self.both(desk, hall, deed)
            figures = chance.choice(plan.lines) + "1"
            if hall.way(line) == "rests":
                self.both(desk, hall, ("lift", line))
            if hall.way(line) == "dials":
                answer = []
                for deed in dialled(line, figures):
                    if hall.way(line) == "dials":
                        answer += hall.do(deed)
                self.assertEqual(desk.say(f"dial {line} {figures}"), "; ".join(written(come) for come in answer))
            self.assertEqual(asked_at(desk, plan), by_hall(hall, plan))

    def both(self, desk, hall, deed):
        """Does a deed at both where the hall does it."""
        try:
            answer = hall.do(deed)
        except HallError:
            return
        self.assertEqual(desk.say(row_of(deed)), "; ".join(written(come) for come in answer) or "ok")


class Asked(DeskCase):
    def test_of_a_line_in_each_way(self):
        told = {
            "rests": ("rests", "none", "none", "none", "none"),
            "waits": ("waits", "none", "none", "none", "none"),
            "dials": ("dials", "none", "none", "-:0", "none"),
            "dials, a pulse": ("dials", "none", "none", "-:0", "none"),
            "dials, a switch": ("dials", "1", "none", "-:0 1:0", "none"),
            "dials, a figure more": ("dials", "11", "none", "-:0 1:0", "none"),
            "rings": ("rings", "112", "112", "-:0 1:0", "none"),
            "rung": ("rung", "none", "112", "none", "none"),
            "talks, calling": ("talks", "112", "112", "-:0 1:0", "none"),
            "talks, called": ("talks", "none", "112", "none", "none"),
            "told over": ("told", "none", "none", "none", "over "),
            "told none, a prefix": ("told", "9", "none", "none", "none 9"),
            "told none, a number": ("told", "119", "none", "none", "none 119"),
            "told busy, a group": ("told", "3", "none", "none", "group 3"),
            "told busy, a line": ("told", "111", "none", "none", "line 111 dials"),
        }
        self.assertEqual(list(told), list(SCENES))
        for name in SCENES:
            self.desk = desk_in(name)
            rows = [f"{word} 111" for word in ("way", "figures", "other", "holds", "why")]
            self.says(*zip(rows, told[name]))

    def test_all_in_each_way(self):
        for name, (way, deeds) in SCENES.items():
            hall = done_again(small_plan(), deeds)
            self.assertEqual(asked_at(desk_in(name), small_plan()), by_hall(hall, small_plan()))

    def test_papers_and_shares(self):
        self.do("lift 112", "dial 112 1", "stick - 0", "stick 1 0", "stick 1 1", "stick - 2", "lift 211", "dial 211 2")
        self.says(("paper -", "112 211 stuck"), ("paper 1", "112 stuck"), ("paper 2", "211"), ("paper 3", "none"),
                  ("shares -", "1 1 0"), ("shares 1", "1 0"), ("shares 2", "1"), ("shares 3", "none"),
                  ("steps", "1 4 0"), ("holds 211", "-:1 2:0"))

    def test_waiting(self):
        self.do("stick - 0", "stick - 1", "stick - 2", "lift 211")
        self.says(("waiting", "211"))
        self.do("lift 111", "lift 121")
        self.says(("waiting", "211 111 121"))
        self.do("mend - 1")
        self.says(("waiting", "111 121"))

    def test_holds_of_two_groups(self):
        self.desk = Desk("long 4\nseekers 2\nline 1234\nline 1235\ngroup 1 1\ngroup 12 2")
        self.do("stick 12 0", "lift 1235", "dial 1235 12")
        self.says(("holds 1235", "-:0 1:0 12:1"), ("paper 12", "stuck 1235"))

    def test_calls_and_waits(self):
        self.do("lift 111")
        self.says(("calls", "111 0 0 - - - - - on"), ("waits", "111 0 0 tone"))
        self.do("dial 111 112", "lift 112", "hang 112")
        self.says(("calls", "111 0 0 112 112 7 8 9 left; 111 1 9 - - - - - on"),
                  ("waits", "111 0 0 tone; 111 9 9 tone"))
        self.do("stick - 0", "stick - 2", "lift 113", "lift 121", "hang 121")
        self.says(("calls", "111 0 0 112 112 7 8 9 left; 111 1 9 - - - - - on"),
                  ("waits", "111 0 0 tone; 111 9 9 tone; 113 12 - on; 121 13 14 hung"))

    def test_calls_of_each_end(self):
        self.do("lift 111", "dial 111 9", "hang 111", "lift 111", "dial 111 3", "hang 111", "lift 111",
                *["pulse 111"] * 11)
        self.says(("calls", "111 0 0 9 - - - 10 none; 111 1 12 3 - - - 16 busy; 111 2 18 - - - - 29 over"))
        self.do("hang 111", "lift 111", "hang 111")
        self.says(("calls", "111 0 0 9 - - - 10 none; 111 1 12 3 - - - 16 busy; 111 2 18 - - - - 29 over; "
                            "111 0 31 - - - - 32 hung"))

    def test_calls_and_waits_of_the_deeds_that_stand(self):
        self.do("lift 111", "hang 111", "lift 112")
        self.assertRaises(HallError, self.desk.say, "lift 112")
        self.do("lift 113")
        self.says(("waits", "111 0 0 tone; 112 2 2 tone; 113 3 3 tone"))
        self.do("back", "back")
        self.says(("calls", "111 0 0 - - - - 1 hung"), ("waits", "111 0 0 tone"))
        self.do("back", "back")
        self.says(("calls", "none"), ("waits", "none"))
        self.do("again", "again", "again")
        self.says(("calls", "111 0 0 - - - - 1 hung; 112 1 2 - - - - - on"))

    def test_asked_twice(self):
        for name in SCENES:
            desk = desk_in(name)
            self.assertEqual(asked_at(desk, small_plan()), asked_at(desk, small_plan()))


class BackAndAgain(DeskCase):
    def test_nothing_left(self):
        self.refused(NothingLeft, self.desk.say, "back")
        self.refused(NothingLeft, self.desk.say, "again")
        self.do("lift 111")
        self.refused(NothingLeft, self.desk.say, "again")
        self.do("back")
        self.refused(NothingLeft, self.desk.say, "back")

    def test_each_deed(self):
        self.says(("lift 111", "waits 111; tone 111 0 0"), ("stick 1 0", "ok"), ("back", "ok"),
                  ("paper 1", "free free"), ("back", "ok"), ("way 111", "rests"),
                  ("again", "waits 111; tone 111 0 0"), ("again", "ok"), ("paper 1", "stuck free"))

    def test_behind_dial_deed_by_deed(self):
        self.do("lift 111", "dial 111 112")
        self.says(("back", "ok"), ("way 111", "dials"), ("figures 111", "11"), ("way 112", "rests"), ("back", "ok"),
                  ("back", "ok"), ("figures 111", "11"), ("back", "ok"), ("figures 111", "1"), ("holds 111", "-:0 1:0"),
                  ("back", "ok"), ("back", "ok"), ("figures 111", "none"), ("holds 111", "-:0"),
                  ("again", "takes 111 1 0"), ("again", "ok"), ("again", "figure 111 11"), ("again", "ok"),
                  ("again", "ok"), ("again", "rings 111 112"))
        self.refused(NothingLeft, self.desk.say, "again")

    def test_dial_ends_what_could_be_done_again(self):
        self.do("lift 111", "stick 1 1", "lift 112", "back", "back")
        self.do("dial 111 1")
        self.refused(NothingLeft, self.desk.say, "again")
        self.says(("back", "ok"), ("again", "takes 111 1 0"), ("way 112", "rests"))

    def test_a_question_or_a_refusal_between_ends_nothing(self):
        self.do("lift 111", "dial 111 112", "back")
        ahead = asked_at(self.desk, small_plan())
        for row in ("dial 112 1", "dial 999 1", "dial 111", "lift 111", "hang x", "stick 9 0", "mend - 3", "x", ""):
            self.assertRaises(HallError, self.desk.say, row)
        self.assertEqual(asked_at(self.desk, small_plan()), ahead)
        self.says(("again", "rings 111 112"))

    def test_hundreds(self):
        chance = random.Random(9)
        plan = any_plan(chance)
        desk, hall, tells = Desk(plan_text(plan)), Hall(plan), []
        for deed in any_deeds(chance, plan, 400):
            try:
                hall.do(deed)
            except HallError as error:
                if "" not in deed[:2] or deed[0] in ("stick", "mend"):
                    if not (len(deed) == 3 and deed[2] < 0):
                        self.refused(type(error), desk.say, row_of(deed))
            else:
                tells.append(desk.say(row_of(deed)))
        ahead = asked_at(desk, plan)
        self.assertEqual(ahead, by_hall(hall, plan))
        self.assertGreater(len(tells), 300)
        self.assertEqual({desk.say("back") for tell in tells}, {"ok"})
        self.assertEqual(asked_at(desk, plan), by_hall(Hall(plan), plan))
        self.assertEqual([desk.say("again") for tell in tells], tells)
        self.assertEqual(asked_at(desk, plan), ahead)


if __name__ == "__main__":
    unittest.main()
