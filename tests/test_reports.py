import copy
import random
import unittest

from stephall.errors import NoLine, NoSwitch, NotSo
from stephall.figures import dialled
from stephall.halls import Hall
from stephall.plans import Plan
from stephall.reports import done_again, judged, load, need
from tests.helper import (
    SCENES, HallCase, answer_or_kind, answers_of, any_deeds, any_rows, asked, at_seekers, calls, scene, small_plan,
)


def report_of(plan, deeds):
    """The right report of a row of deeds."""
    hall = Hall(plan)
    answers = [answer_or_kind(hall, deed) for deed in deeds]
    return [(deed, answer if isinstance(answer, list) else None) for deed, answer in zip(deeds, answers)]


def with_seekers(plan, seekers):
    return Plan(plan.long, list(plan.lines), seekers, list(plan.groups))


class DoneAgain(HallCase):
    def test_no_deed(self):
        hall = done_again(small_plan(), [])
        self.assertIs(type(hall), Hall)
        self.assertEqual(asked(hall, small_plan()), asked(Hall(small_plan()), small_plan()))

    def test_the_deeds_of_each_scene(self):
        for name in SCENES:
            again = done_again(small_plan(), scene(name).deeds())
            self.assertEqual(asked(again, small_plan()), asked(scene(name), small_plan()))

    def test_a_halls_own_deeds(self):
        for plan, deeds in any_rows(30, 200):
            hall = Hall(plan)
            for deed in deeds:
                answer_or_kind(hall, deed)
            again = done_again(plan, hall.deeds())
            self.assertEqual(asked(again, plan), asked(hall, plan))
            # What can't be asked is the same, too: pulses, the mark, where the seekers stand.
            for deed in deeds[:40]:
                self.assertEqual(answer_or_kind(again, deed), answer_or_kind(hall, deed))

    def test_two_thousand_deeds(self):
        plan = Plan(4, [str(k) for k in range(1100, 1160)], 20, [("1", 10), ("11", 8)])
        hall = Hall(plan)
        report = []
        for deed in any_deeds(random.Random(7), plan, 10000):
            if len(hall.deeds()) < 2000:
                answer = answer_or_kind(hall, deed)
                if isinstance(answer, list):
                    report.append((deed, answer))
        self.assertEqual(len(hall.deeds()), 2000)
        self.assertEqual(asked(done_again(plan, hall.deeds()), plan), asked(hall, plan))
        self.assertIsNone(judged(plan, report))
        report[-1] = (report[-1][0], None)
        self.assertEqual(judged(plan, report), 1999)

    def test_the_first_that_is_refused(self):
        good = [("lift", "111"), ("pulse", "111")]
        bad = ((NoLine, ("lift", "x")), (NoSwitch, ("stick", "9", 0)), (NoSwitch, ("mend", "", 3)),
               (NotSo, ("lift", "111")), (NotSo, ("gap", "112")))
        for kind, deed in bad:
            for other_kind, other in bad:
                for place in range(3):
                    row = [*good[:place], deed, *good[place:], other]
                    # Ahead of the lift 111 can be lifted, and then not once more.
                    if deed == ("lift", "111") and place == 0:
                        self.refused(NotSo, done_again, small_plan(), row)
                    else:
                        self.refused(kind, done_again, small_plan(), row)

    def test_the_hall_is_the_askers_own(self):
        deeds = [("lift", "111")]
        first, second = done_again(small_plan(), deeds), done_again(small_plan(), deeds)
        answers_of(first, dialled("111", "112"))
        self.assertEqual(second.way("111"), "dials")
        self.assertEqual(second.figures("111"), "")
        self.assertEqual(deeds, [("lift", "111")])
        deeds.append(("hang", "111"))
        self.assertEqual(second.deeds(), [("lift", "111")])


class Judged(HallCase):
    def setUp(self):
        self.plan = small_plan()
        deeds = [("stick", "1", 1), *calls("111", "112"), ("lift", "111"), ("lift", "112"), *calls("121", "1"),
                 ("hang", "x"), ("stick", "1", 2), ("hang", "112"), ("gap", "111")]
        self.report = report_of(self.plan, deeds)

    def judge(self, place, answer):
        """One pair has another answer."""
        report = list(self.report)
        report[place] = (report[place][0], answer)
        return judged(self.plan, report)

    def test_no_pair(self):
        self.assertIsNone(judged(self.plan, []))

    def test_a_right_report(self):
        self.assertIsNone(judged(self.plan, self.report))
        for many in range(len(self.report)):
            self.assertIsNone(judged(self.plan, self.report[:many]))

    def test_right_reports_of_any_deeds(self):
        for plan, deeds in any_rows(30, 200):
            self.assertIsNone(judged(plan, report_of(plan, deeds)))

    def test_none_for_a_list_and_a_list_for_none(self):
        for place, (deed, answer) in enumerate(self.report):
            if answer is None:
                self.assertEqual(self.judge(place, []), place)
                self.assertEqual(self.judge(place, [("rests", "111")]), place)
            else:
                self.assertEqual(self.judge(place, None), place)
        kinds = [answer is None for deed, answer in self.report]
        self.assertEqual((kinds[0], kinds[-1], set(kinds)), (False, True, {True, False}))

    def test_a_tuple_more_less_or_exchanged(self):
        exchanged = 0
        for place, (deed, answer) in enumerate(self.report):
            if answer is not None:
                self.assertEqual(self.judge(place, [*answer, ("rests", "111")]), place)
                self.assertEqual(self.judge(place, [("tone", "111", 0, 0), *answer]), place)
            if answer:
                self.assertEqual(self.judge(place, answer[1:]), place)
                self.assertEqual(self.judge(place, answer[:-1]), place)
                self.assertEqual(self.judge(place, [*answer, answer[-1]]), place)
            if answer and len(answer) > 1:
                self.assertEqual(self.judge(place, answer[::-1]), place)
                exchanged += 1
        self.assertGreater(exchanged, 1)

    def test_a_word_or_a_number_otherwise(self):
        changed = 0
        for place, (deed, answer) in enumerate(self.report):
            for at, come in enumerate(answer or []):
                for part, thing in enumerate(come):
                    other = thing + 1 if isinstance(thing, int) else "other"
                    one = (*come[:part], other, *come[part + 1:])
                    self.assertEqual(self.judge(place, [*answer[:at], one, *answer[at + 1:]]), place)
                    changed += 1
                self.assertEqual(self.judge(place, [*answer[:at], come[:-1], *answer[at + 1:]]), place)
                self.assertEqual(self.judge(place, [*answer[:at], (*come, 0), *answer[at + 1:]]), place)
        self.assertGreater(changed, 20)

    def test_a_paper_otherwise(self):
        places = [place for place, (deed, answer) in enumerate(self.report) if answer and answer[0][0] == "busy"]
        self.assertEqual([self.report[place][1][0][2] for place in places], [("group", "1", ("111", "stuck"))])
        for paper in (("group", "1", ("stuck", "111")), ("group", "1", ("111",)), ("group", "1", ("111", "free")),
                      ("line", "1", ("111", "stuck")), ("group", "2", ("111", "stuck")), ("group", "1")):
            self.assertEqual(self.judge(places[0], [("busy", "121", paper)]), places[0])

    def test_the_first_of_several(self):
        report = [(deed, None) for deed, answer in self.report]
        self.assertEqual(judged(self.plan, report), 0)
        report[0] = self.report[0]
        self.assertEqual(judged(self.plan, report), 1)
        report = [*self.report[:5], *[(deed, "x") for deed, answer in self.report[5:]]]
        self.assertEqual(judged(self.plan, report), 5)

    def test_another_deed(self):
        report = [self.report[0], *self.report[2:]]
        self.assertEqual(judged(self.plan, report), 1)
        self.assertEqual(judged(self.plan, [(("lift", "112"), [("waits", "111"), ("tone", "111", 0, 0)])]), 0)

    def test_another_plan(self):
        lift = [("waits", "112"), ("tone", "112", 0, 1)]
        self.assertIsNone(judged(small_plan(), [(("lift", "112"), lift)]))
        self.assertEqual(judged(Plan(3, ["112"], 1, []), [(("lift", "112"), lift)]), 0)
        self.assertEqual(judged(Plan(3, ["113"], 1, []), [(("lift", "112"), lift)]), 0)
        self.assertIsNone(judged(Plan(3, ["113"], 1, []), [(("lift", "112"), None)]))

    def test_a_refused_deed_is_gone_by(self):
        report = [(("lift", "111"), [("waits", "111"), ("tone", "111", 0, 0)]), (("lift", "111"), None),
                  (("hang", "111"), [("rests", "111")]), (("hang", "111"), None), (("hang", "111"), [("rests", "111")])]
        self.assertEqual(judged(small_plan(), report), 4)

    def test_the_report_stays(self):
        report = copy.deepcopy(self.report)
        judged(self.plan, report)
        self.assertEqual(report, self.report)
        report[3] = (report[3][0], None)
        ahead = copy.deepcopy(report)
        self.assertEqual(judged(self.plan, report), 3)
        self.assertEqual(judged(self.plan, report), 3)
        self.assertEqual(report, ahead)

    def test_a_whole_number(self):
        self.whole(self.judge(0, None))


class LoadAndNeed(HallCase):
    def told(self, deeds, most, enough, plan=None):
        plan = plan or small_plan()
        ahead = list(deeds)
        self.assertEqual(load(plan, deeds), most)
        self.assertEqual(need(plan, deeds), enough)
        self.assertIs(type(load(plan, deeds)), tuple)
        self.whole(load(plan, deeds)[0])
        self.whole(need(plan, deeds))
        self.assertEqual(deeds, ahead)

    def test_no_deed(self):
        self.told([], (0, None), 1)

    def test_none_ever_held(self):
        self.told([("stick", "1", 0), ("mend", "", 0), ("lift", "x"), ("hang", "111"), ("pulse", "111")], (0, None), 1)

    def test_one(self):
        self.told([("lift", "111")], (1, 0), 1)
        self.told([("lift", "111"), ("hang", "111"), ("lift", "112"), ("hang", "112")], (1, 0), 1)

    def test_several(self):
        lifts = [("lift", line) for line in small_plan().lines]
        self.told(lifts, (5, 4), 5)
        self.told([*lifts, ("hang", "111"), ("lift", "111")], (5, 4), 5)
        self.told([*lifts[:2], ("hang", "111"), ("lift", "111"), *lifts[2:]], (5, 6), 5)

    def test_more_than_the_plan_has(self):
        plan = with_seekers(small_plan(), 1)
        lifts = [("lift", line) for line in plan.lines]
        self.told(lifts, (5, 4), 5, plan)
        self.told(lifts[:3], (3, 2), 3, plan)
        self.told(lifts, (5, 4), 5, with_seekers(small_plan(), 60))

    def test_deeds_at_seekers_are_left_out_and_counted(self):
        lifts = [("lift", line) for line in small_plan().lines]
        self.told([*at_seekers("stick", 3), *lifts[:3]], (3, 5), 3)
        self.told([("stick", "", 4), ("lift", "111"), ("mend", "", 0), ("stick", "", 1), ("lift", "112")], (2, 4), 2)
        self.told([("lift", "111"), ("stick", "", 0), ("hang", "111"), ("lift", "111")], (1, 0), 1)

    def test_refused_deeds_are_gone_by_and_counted(self):
        deeds = [("hang", "111"), ("stick", "", 99), ("lift", "x"), ("lift", ""), ("lift", "111"), ("lift", "111"),
                 ("gap", "111"), ("stick", "9", 0), ("lift", "112"), ("mend", "1", 5)]
        self.told(deeds, (2, 8), 2)

    def test_deeds_at_groups_are_done(self):
        deeds = [("stick", "1", 0), ("stick", "1", 1), *calls("111", "1"), ("lift", "112")]
        self.told(deeds, (1, 2), 1)
        deeds = [("stick", "1", 0), *calls("111", "1"), ("lift", "112")]
        self.told(deeds, (2, 4), 2)
        deeds = [("stick", "1", 0), ("stick", "1", 1), ("mend", "1", 1), *calls("111", "1"), ("lift", "112")]
        self.told(deeds, (2, 6), 2)

    def test_the_other_end_of_a_talk_needs_one(self):
        self.told([*calls("111", "112"), ("lift", "112"), ("hang", "111")], (1, 0), 1)
        self.told([*calls("111", "112"), ("lift", "112"), ("lift", "113"), ("hang", "111")], (2, 9), 2)

    def test_sixty(self):
        plan = Plan(2, [str(k) for k in range(10, 70)], 1, [])
        self.told([("lift", line) for line in plan.lines], (60, 59), 60, plan)

    def test_the_plan_stays(self):
        plan = small_plan()
        load(plan, [("lift", "111")])
        need(plan, [("lift", "111")])
        self.assertEqual((plan.long, plan.lines, plan.seekers, plan.groups),
                         (3, small_plan().lines, 3, small_plan().groups))

    def first_wait(self, plan, deeds, seekers):
        """The place of the first deed behind which somebody waits with so many seekers, or None."""
        hall = Hall(with_seekers(plan, seekers))
        for place, deed in enumerate(deeds):
            if deed[0] not in ("stick", "mend") or deed[1] != "":
                answer_or_kind(hall, deed)
            if hall.waiting():
                return place
        return None

    def test_the_need_is_enough_and_no_fewer_are(self):
        fewer = 0
        for plan, deeds in any_rows(60, 150):
            many, place = load(plan, deeds)
            enough = need(plan, deeds)
            self.assertEqual(enough, max(many, 1))
            self.assertIsNone(self.first_wait(plan, deeds, enough))
            for seekers in range(1, enough):
                self.assertLessEqual(self.first_wait(plan, deeds, seekers), place)
                fewer += 1
            if enough > 1:
                self.assertEqual(self.first_wait(plan, deeds, enough - 1), place)
        self.assertGreater(fewer, 50)


if __name__ == "__main__":
    unittest.main()
