"""What is promised over the whole program: own copies, own lists, the same answers, and the promise of calls."""

import copy
import importlib
import inspect
import random
import unittest

from stephall import errors
from stephall.calls import calls_of, waits_of
from stephall.desk import Desk
from stephall.figures import dialled
from stephall.grades import group_load, group_need
from stephall.groups import Group
from stephall.halls import Hall
from stephall.kept import Keeper
from stephall.plans import Plan, plan_text, read_plan
from stephall.reports import done_again, judged, load, need
from stephall.seekers import Seekers
from tests.helper import (
    REFUSALS, Book, HallCase, answers_of, any_deeds, any_plan, asked, asked_at, calls, row_of, small_plan,
)

# The interface: what is imported from each module, and how many things each takes.
INTERFACE = {
    "figures": {"figure_of": 1, "pulses_of": 1, "dialled": 2},
    "plans": {"Plan": 4, "plan_text": 1, "read_plan": 1},
    "seekers": {"Seekers": 2},
    "groups": {"Group": 1},
    "halls": {"Hall": 1},
    "reports": {"done_again": 2, "judged": 2, "load": 2, "need": 2},
    "calls": {"calls_of": 2, "waits_of": 2},
    "grades": {"group_load": 3, "group_need": 3},
    "kept": {"Keeper": 1},
    "desk": {"Desk": 1},
}
METHODS = {
    Seekers: {"take": 1, "free": 1, "stick": 1, "mend": 1, "holders": 0, "stuck": 0, "mark": 0, "shares": 0, "steps": 0},
    Group: {"take": 1, "free": 1, "stick": 1, "mend": 1, "paper": 0, "shares": 0},
    Hall: {"do": 1, "way": 1, "figures": 1, "holds": 1, "other": 1, "told_paper": 1, "paper": 1, "shares": 1,
           "waiting": 0, "steps": 0, "deeds": 0},
    Keeper: {"do": 1, "back": 0, "again": 0, "deeds": 0, "left": 0, "hall": 0},
    Desk: {"say": 1},
}
TALK = [*calls("111", "112"), ("lift", "112")]
ROW = [*TALK, ("lift", "x"), ("stick", "", 2), ("lift", "113"), ("lift", "121"), ("hang", "111"), ("hang", "113")]
BY_ROW = (done_again, load, need, calls_of, waits_of)


class Interface(HallCase):
    def test_everything_is_there(self):
        for module, names in INTERFACE.items():
            there = importlib.import_module(f"stephall.{module}")
            for name, many in names.items():
                self.assertEqual(len(inspect.signature(getattr(there, name)).parameters), many, name)
        for kind, names in METHODS.items():
            for name, many in names.items():
                # One more: the object itself.
                self.assertEqual(len(inspect.signature(getattr(kind, name)).parameters), many + 1, name)

    def test_the_refusals(self):
        for kind in REFUSALS:
            self.assertEqual(kind.__bases__, (errors.HallError,))


class HandedIn(HallCase):
    def test_lists_stay_as_they_were(self):
        lines, groups, deeds = ["112", "111"], [("2", 1), ("1", 1)], calls("111", "112")
        report = [(("lift", "111"), [("waits", "111"), ("tone", "111", 0, 0)]), (("lift", "x"), None)]
        ahead = copy.deepcopy((lines, groups, deeds, report))
        plan = Plan(3, lines, 1, groups)
        for ask in BY_ROW:
            ask(plan, deeds)
        group_load(plan, deeds, "1")
        group_need(plan, deeds, "1")
        judged(plan, report)
        self.assertEqual((lines, groups, deeds, report), ahead)

    def test_lists_are_not_kept(self):
        lines, groups, deeds = ["112", "111"], [("2", 1), ("1", 1)], calls("111", "112")
        plan = Plan(3, lines, 1, groups)
        hall = done_again(plan, deeds)
        for one in (lines, groups, deeds):
            one.clear()
        self.assertEqual((plan.lines, plan.groups), (("111", "112"), (("1", 1), ("2", 1))))
        self.assertEqual(hall.deeds(), calls("111", "112"))

    def test_plans_stay_as_they_were_and_are_not_kept(self):
        for make in (Hall, Keeper, lambda plan: done_again(plan, [])):
            plan = small_plan()
            made = make(plan)
            answers_of(made, TALK)
            self.assertEqual(plan_text(plan), plan_text(small_plan()))
            plan.long, plan.seekers, plan.lines, plan.groups = 2, 1, ("11",), ()
            self.assertEqual(made.do(("hang", "112")), [("rests", "112"), ("waits", "111"), ("tone", "111", 1, 0)])
            self.assertEqual(made.deeds(), [*TALK, ("hang", "112")])


class Told(HallCase):
    def asks(self):
        """Everything that tells a list, each asked of something in which much was done."""
        plan = small_plan()
        seekers, group, hall, keeper = Seekers(3, 5), Group(2), Hall(plan), Keeper(plan)
        seekers.take(2)
        seekers.stick(1)
        group.take("111")
        for deed in ROW:
            if deed != ("lift", "x"):
                hall.do(deed)
                keeper.do(deed)
        keeper.back()
        return [
            lambda: dialled("111", "12"), lambda: dialled("111", ""), seekers.holders, seekers.stuck, seekers.shares,
            seekers.steps, group.shares, lambda: hall.holds("112"), lambda: hall.holds("111"), lambda: hall.shares(""),
            lambda: hall.shares("1"), lambda: hall.shares("3"), hall.waiting, hall.steps, hall.deeds, keeper.deeds,
            lambda: keeper.hall().deeds(), lambda: calls_of(plan, ROW), lambda: waits_of(plan, ROW),
            lambda: calls_of(plan, []), lambda: waits_of(plan, []),
        ]

    def test_every_list_is_a_new_one_and_the_askers_own(self):
        asks = self.asks()
        first, second = [ask() for ask in asks], [ask() for ask in asks]
        self.assertEqual(first, second)
        self.assertEqual(len({id(one) for one in first + second}), 2 * len(asks))
        for one in first:
            self.assertIs(type(one), list)
            one.reverse()
            one.append("mine")
            one[0] = "mine"
        self.assertEqual([ask() for ask in asks], second)

    def test_what_a_list_holds_cannot_be_changed(self):
        for one in [ask() for ask in self.asks()] + answers_of(Hall(small_plan()), TALK):
            for thing in one:
                hash(thing)
                self.assertNotIsInstance(thing, (list, dict, set))

    def test_answers_are_new_lists(self):
        for made in (Hall(small_plan()), Keeper(small_plan())):
            answers = answers_of(made, [*TALK, ("mend", "", 0), ("mend", "", 0)])
            self.assertEqual(len({id(answer) for answer in answers}), len(answers))
            ahead = made.deeds()
            for answer in answers:
                answer.append("mine")
            self.assertEqual(made.deeds(), ahead)

    def test_the_same_question_has_the_same_answer(self):
        plan = small_plan()
        for ask in (load, need, calls_of, waits_of):
            self.assertEqual(ask(plan, ROW), ask(plan, ROW))
        for prefix in ("1", "2", "3"):
            self.assertEqual(group_load(plan, ROW, prefix), group_load(plan, ROW, prefix))
            self.assertEqual(group_need(plan, ROW, prefix), group_need(plan, ROW, prefix))
        self.assertEqual(plan_text(read_plan(plan_text(plan))), plan_text(plan))


class ThePromise(HallCase):
    def works(self, rows, many):
        """Plans with a keeper and a desk, deeds done, taken back and done again at both, and the deeds that stand."""
        for seed in range(rows):
            chance = random.Random(9000 + seed)
            plan = any_plan(chance)
            keeper, desk = Keeper(plan), Desk(plan_text(plan))
            for deed in any_deeds(chance, plan, many):
                if chance.random() < 0.2 and keeper.left()[0]:
                    keeper.back()
                    desk.say("back")
                elif chance.random() < 0.3 and keeper.left()[1]:
                    keeper.again()
                    desk.say("again")
                elif self.done(keeper, deed):
                    desk.say(row_of(deed))
                yield plan, keeper, desk

    def done(self, keeper, deed):
        """Whether a keeper does a deed."""
        try:
            keeper.do(deed)
        except errors.HallError:
            return False
        return True

    def test_by_a_keeper_all_is_as_in_a_book_of_the_deeds_that_stand(self):
        for plan, keeper, desk in self.works(15, 120):
            book = Book(plan)
            for deed in keeper.deeds():
                self.assertIsNone(book.refusal(deed))
                book.do(deed)
            self.assertEqual(asked(keeper.hall(), plan), book.asked())

    def test_at_a_desk_no_line_and_no_switch_is_in_two_calls(self):
        ways = set()
        for plan, keeper, desk in self.works(25, 120):
            told = asked_at(desk, plan)
            held = [pair for line in plan.lines for pair in self.words(told[f"holds {line}"])]
            self.assertEqual(len(held), len(set(held)))
            for line in plan.lines:
                way, other = told[f"way {line}"], told[f"other {line}"]
                ways.add(way)
                self.assertEqual(other != "none", way in ("rings", "rung", "talks"))
                if other != "none":
                    self.assertEqual(told[f"other {other}"], line)
                    self.led(plan, told, line if told[f"figures {line}"] != "none" else other)
                for pair in self.words(told[f"holds {line}"]):
                    where, k = pair.split(":")
                    self.assertEqual(told[f"paper {where}"].split(" ")[int(k)], line)
            for where in ["-", *[prefix for prefix, many in plan.groups]]:
                named = [f"{where}:{k}" for k, who in enumerate(self.words(told[f"paper {where}"]))
                         if who not in ("free", "stuck")]
                self.assertEqual(named, sorted([pair for pair in held if pair.split(":")[0] == where], key=self.number))
            self.assertTrue(told["waiting"] == "none" or "free" not in told["paper -"])
        self.assertEqual(ways, {"rests", "waits", "dials", "rings", "rung", "talks", "told"})

    def led(self, plan, told, caller):
        """Fails unless a caller is led by a seeker and by switches to just the line that it dialled."""
        figures = told[f"figures {caller}"]
        self.assertEqual(told[f"other {caller}"], figures)
        wheres = [pair.split(":")[0] for pair in self.words(told[f"holds {caller}"])]
        self.assertEqual(wheres, ["-", *[figures[:many] for many in range(1, plan.long - 1)]])

    def words(self, text):
        return [] if text == "none" else text.split(" ")

    def number(self, pair):
        return int(pair.split(":")[1])


if __name__ == "__main__":
    unittest.main()
