import copy
import unittest

from stephall.errors import NoSwitch
from stephall.grades import group_load, group_need
from stephall.halls import Hall
from stephall.plans import Plan
from tests.helper import (
    NO_NUMBERS, HallCase, answer_or_kind, any_rows, at_seekers, calls, small_plan,
)


def sixty():
    """Sixty lines, one seeker, and groups with few switches or none."""
    return Plan(3, [str(k) for k in range(100, 160)], 1, [("1", 0), ("2", 1), ("3", 10)])


def takers(plan, many, figure="1"):
    """Some lines, one behind the other, each of which dials a figure: three deeds each where it is 1."""
    return [deed for line in plan.lines[:many] for deed in calls(line, figure)]


class GradeCase(HallCase):
    def told(self, deeds, prefix, load, need, plan=None):
        """Fails unless this is the load and the need of a group, each time, and the deeds stay."""
        plan = plan or small_plan()
        ahead = copy.deepcopy(deeds)
        for time in range(2):
            self.assertEqual(group_load(plan, deeds, prefix), load)
            self.assertEqual(group_need(plan, deeds, prefix), need)
        self.assertIs(type(group_load(plan, deeds, prefix)), tuple)
        self.whole(group_load(plan, deeds, prefix)[0])
        if load[1] is not None:
            self.whole(group_load(plan, deeds, prefix)[1])
        if need is not None:
            self.whole(group_need(plan, deeds, prefix))
        self.assertEqual(deeds, ahead)


class LoadAndNeed(GradeCase):
    def test_no_deed(self):
        for prefix in ("1", "2", "3"):
            self.told([], prefix, (0, None), 0)

    def test_none_ever_held(self):
        self.told([("lift", "111"), ("pulse", "111"), ("hang", "111")], "1", (0, None), 0)
        for prefix in ("2", "3"):
            self.told(calls("111", "112"), prefix, (0, None), 0)

    def test_one(self):
        self.told(calls("111", "1"), "1", (1, 2), 1)
        self.told([*calls("111", "1"), ("hang", "111"), *calls("112", "1"), ("hang", "112")], "1", (1, 2), 1)

    def test_the_first_place_of_the_greatest_number(self):
        plan = small_plan()
        self.told(takers(plan, 2), "1", (2, 5), 2)
        self.told([*takers(plan, 2), ("hang", "111"), *calls("111", "1")], "1", (2, 5), 2)
        self.told([*calls("111", "1"), ("hang", "111"), *takers(plan, 3)], "1", (3, 12), 3)

    def test_each_group_by_itself(self):
        deeds = [*calls("111", "1"), *calls("112", "2"), *calls("113", "1"), *calls("121", "3")]
        self.told(deeds, "1", (2, 9), 2)
        self.told(deeds, "2", (1, 6), 1)
        self.told(deeds, "3", (1, 14), 1)

    def test_groups_of_two_figures(self):
        plan = Plan(4, ["1234", "1235", "1236"], 1, [("1", 0), ("12", 0), ("13", 1)])
        deeds = [*calls("1234", "12"), *calls("1235", "1"), *calls("1236", "13")]
        self.told(deeds, "1", (3, 11), 3, plan)
        self.told(deeds, "12", (1, 5), 1, plan)
        self.told(deeds, "13", (1, 15), 1, plan)

    def test_a_group_without_switches_is_done_with_ten(self):
        self.told(calls("111", "3"), "3", (1, 4), 1)
        self.told(takers(sixty(), 10), "1", (10, 29), 10, sixty())

    def test_ten_held_and_an_eleventh_wanted(self):
        plan = sixty()
        self.told(takers(plan, 10), "1", (10, 29), 10, plan)
        self.told(takers(plan, 11), "1", (10, 29), None, plan)
        self.told(takers(plan, 60), "1", (10, 29), None, plan)
        # The eleventh asks when another one has gone.
        self.told([*takers(plan, 10), ("hang", "100"), *calls("155", "1")], "1", (10, 29), 10, plan)
        # Of another group somebody is told busy.
        self.told(takers(plan, 11), "2", (0, None), 0, plan)
        self.told([*takers(plan, 11), *calls("150", "2")], "2", (1, 36), 1, plan)

    def test_told_busy_by_a_line_is_not_told_busy_by_the_group(self):
        self.told(calls("111", "111"), "1", (1, 2), 1)
        self.told([("lift", "112"), *calls("111", "112")], "1", (1, 3), 1)

    def test_the_calls_end_is_seen(self):
        plan = small_plan()
        deeds = [*calls("111", "112"), ("lift", "112"), ("hang", "112"), *calls("113", "1")]
        self.told(deeds, "1", (1, 2), 1, plan)
        self.told([*calls("111", "119"), *calls("113", "1")], "1", (1, 2), 1, plan)
        self.told([*calls("111", "1"), *[("pulse", "111")] * 11, *calls("113", "1")], "1", (1, 2), 1, plan)
        self.told([*calls("111", "112"), *calls("113", "1")], "1", (2, 10), 2, plan)

    def test_there_are_as_many_seekers_as_lines(self):
        self.told(takers(sixty(), 5), "1", (5, 14), 5, sixty())

    def test_stick_and_mend_are_left_out_and_counted(self):
        stuck = [("stick", "1", 0), ("stick", "1", 1), *at_seekers("stick", 3)]
        self.told([*stuck, *calls("111", "1")], "1", (1, 7), 1)
        self.told([*calls("111", "1"), ("stick", "1", 0), ("hang", "111"), *calls("111", "1")], "1", (1, 2), 1)
        spread = [("lift", "111"), ("mend", "1", 0), ("pulse", "111"), ("mend", "", 0), ("gap", "111")]
        self.told(spread, "1", (1, 4), 1)

    def test_ten_stuck_ones_are_left_out(self):
        plan = sixty()
        stuck = [("stick", "3", k) for k in range(10)]
        self.told([*stuck, *takers(plan, 10, "3")], "3", (10, 59), 10, plan)
        self.told([*stuck, *takers(plan, 11, "3")], "3", (10, 59), None, plan)

    def test_stick_and_mend_that_would_be_refused(self):
        bad = [("stick", "9", 0), ("mend", "x", 0), ("stick", "", 99), ("mend", "1", -1), ("stick", "3", 0)]
        self.told([*bad, *calls("111", "3"), *bad], "3", (1, 9), 1)
        # Of ten switches the fifth could be stuck, of two it can't.
        self.told([*[("stick", "1", k) for k in range(10)], *calls("111", "1")], "1", (1, 12), 1)

    def test_refused_deeds_are_gone_by_and_counted(self):
        bad = [("lift", "x"), ("hang", "111"), ("pulse", "112"), ("gap", "111"), ("lift", "")]
        self.told([*bad, *calls("111", "1"), *bad[2:]], "1", (1, 7), 1)
        spread = [one for deed in takers(small_plan(), 2) for one in (("hang", "x"), deed)]
        self.told(spread, "1", (2, 11), 2)

    def test_the_plan_stays(self):
        plan = small_plan()
        group_load(plan, takers(plan, 2), "1")
        group_need(plan, takers(plan, 2), "1")
        self.assertEqual((plan.long, plan.lines, plan.seekers, plan.groups),
                         (3, small_plan().lines, 3, small_plan().groups))


class NoGroup(GradeCase):
    def test_any_other_text(self):
        plan = small_plan()
        others = ("", "0", "4", "9", "11", "111", "112", "12", " 1", "1 ", "seekers", "None", *NO_NUMBERS)
        for prefix in others:
            for deeds in ([], calls("111", "1"), [("lift", "x")]):
                self.refused(NoSwitch, group_load, plan, deeds, prefix)
                self.refused(NoSwitch, group_need, plan, deeds, prefix)

    def test_a_plan_without_groups(self):
        plan = Plan(2, ["11", "12"], 1, [])
        for prefix in ("", "1", "11", "-"):
            self.refused(NoSwitch, group_load, plan, [("lift", "11")], prefix)
            self.refused(NoSwitch, group_need, plan, [("lift", "11")], prefix)


class AnyRows(GradeCase):
    def walked(self, plan, deeds, prefix, many):
        """With so many switches in a group: of each place how many are held, and the first place of a busy, or None."""
        groups = [(one, many if one == prefix else 10) for one, size in plan.groups]
        hall = Hall(Plan(plan.long, list(plan.lines), len(plan.lines), groups))
        held, busy = [], None
        for place, deed in enumerate(deeds):
            answer = [] if deed[0] in ("stick", "mend") else answer_or_kind(hall, deed)
            told = [come[2][:2] for come in answer if come[0] == "busy"] if isinstance(answer, list) else []
            if ("group", prefix) in told and busy is None:
                busy = place
            held.append(sum((prefix, k) in hall.holds(line) for line in plan.lines for k in range(many)))
        return held, busy

    def test_the_load_the_need_and_no_fewer(self):
        needs = set()
        for plan, deeds in any_rows(25, 150, 5000):
            for prefix, size in plan.groups:
                held, busy = self.walked(plan, deeds, prefix, 10)
                most = max(held)
                load = group_load(plan, deeds, prefix)
                need = group_need(plan, deeds, prefix)
                self.assertEqual(load, (most, held.index(most) if most else None))
                # There are twelve lines at most, and hardly ever eleven of them in one group.
                self.assertIsNone(busy)
                self.assertEqual(need, most)
                needs.add(need)
                self.assertIsNone(self.walked(plan, deeds, prefix, need)[1])
                for fewer in range(need):
                    self.assertEqual(self.walked(plan, deeds, prefix, fewer)[1], held.index(fewer + 1))
        self.assertGreaterEqual(needs, {0, 1, 2})

    def test_two_thousand_deeds(self):
        plan = sixty()
        deeds = [deed for time in range(20) for line in plan.lines[:20] for deed in [*calls(line, "1"), ("hang", line)]]
        self.told([*deeds[:1600], *takers(plan, 11), *deeds[:300]], "1", (10, 1629), None, plan)


if __name__ == "__main__":
    unittest.main()
