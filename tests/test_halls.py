import unittest

from stephall.errors import NotSo
from stephall.figures import dialled
from stephall.halls import Hall
from stephall.plans import Plan
from tests.helper import SCENES, HallCase, answers_of, asked, at_seekers, calls, of_line, scene, small_plan


class DeedCase(HallCase):
    def setUp(self):
        self.hall = Hall(small_plan())

    def do(self, *deeds):
        """What comes of the last of some deeds."""
        return answers_of(self.hall, deeds)[-1]

    def ways(self):
        return [self.hall.way(line) for line in small_plan().lines]


class AtFirst(DeedCase):
    def test_all_rest_and_nothing_is_held(self):
        for line in small_plan().lines:
            self.assertEqual(of_line(self.hall, line), ("rests", "", [], None, None))
        for where, many in (("", 3), ("1", 2), ("2", 1), ("3", 0)):
            self.assertEqual(self.hall.paper(where), ("free",) * many)
            self.assertEqual(self.hall.shares(where), [0] * many)
        self.assertEqual((self.hall.waiting(), self.hall.steps(), self.hall.deeds()), ([], [0, 0, 0], []))

    def test_the_plan_stays_as_it_was(self):
        plan = small_plan()
        hall = Hall(plan)
        answers_of(hall, calls("111", "211"))
        ahead = asked(hall, plan)
        self.assertEqual((plan.long, plan.seekers), (3, 3))
        self.assertEqual(plan.lines, small_plan().lines)
        self.assertEqual(plan.groups, small_plan().groups)
        plan.long, plan.seekers, plan.lines, plan.groups = 2, 60, ("99",), ()
        self.assertEqual(asked(hall, small_plan()), ahead)
        self.assertEqual(hall.do(("lift", "211")), [("talks", "111", "211")])

    def test_two_halls_of_one_plan_share_nothing(self):
        plan = small_plan()
        first, second = Hall(plan), Hall(plan)
        answers_of(first, [*calls("111", "112"), ("stick", "1", 1)])
        self.assertEqual(asked(second, plan), asked(Hall(plan), plan))

    def test_each_scene_leads_to_its_way(self):
        for name, (way, deeds) in SCENES.items():
            self.assertEqual(scene(name).way("111"), way, name)


class Lift(DeedCase):
    def test_tone_at_once(self):
        self.assertEqual(self.do(("lift", "111")), [("waits", "111"), ("tone", "111", 0, 0)])
        self.assertEqual(self.do(("lift", "211")), [("waits", "211"), ("tone", "211", 1, 4)])
        self.assertEqual(self.do(("lift", "112")), [("waits", "112"), ("tone", "112", 2, 1)])
        self.assertEqual(self.hall.paper(""), ("111", "211", "112"))
        self.assertEqual(self.hall.steps(), [0, 4, 1])
        self.assertEqual(self.hall.shares(""), [1, 1, 1])
        self.assertEqual(self.ways(), ["dials", "dials", "rests", "rests", "dials"])

    def test_no_seeker_is_free(self):
        self.do(("lift", "111"), ("lift", "211"), ("lift", "112"))
        self.assertEqual(self.do(("lift", "121")), [("waits", "121")])
        self.assertEqual(self.do(("lift", "113")), [("waits", "113")])
        self.assertEqual(self.hall.waiting(), ["121", "113"])
        self.assertEqual(of_line(self.hall, "121"), ("waits", "", [], None, None))
        self.assertEqual(self.hall.shares(""), [1, 1, 1])

    def test_a_line_that_is_rung_talks(self):
        self.do(*calls("211", "112"))
        self.assertEqual(self.do(("lift", "112")), [("talks", "211", "112")])
        self.assertEqual(of_line(self.hall, "211"), ("talks", "112", [("", 0), ("1", 0)], "112", None))
        self.assertEqual(of_line(self.hall, "112"), ("talks", "", [], "211", None))

    def test_a_line_that_is_rung_needs_no_seeker(self):
        self.do(*calls("211", "112"), *at_seekers("stick", 3), ("lift", "111"))
        self.assertEqual(self.do(("lift", "112")), [("talks", "211", "112")])
        self.assertEqual(self.hall.waiting(), ["111"])
        self.assertEqual(self.hall.shares(""), [1, 0, 0])

    def test_seekers_are_taken_round_and_round(self):
        taken = []
        for line in ("111", "112", "113", "121", "211", "111", "112"):
            taken.append(self.do(("lift", line))[1])
            self.do(("hang", line))
        self.assertEqual(taken, [
            ("tone", "111", 0, 0), ("tone", "112", 1, 1), ("tone", "113", 2, 2), ("tone", "121", 0, 3),
            ("tone", "211", 1, 3), ("tone", "111", 2, 3), ("tone", "112", 0, 3),
        ])
        self.assertEqual(self.hall.shares(""), [3, 2, 2])
        self.assertEqual(self.hall.steps(), [6, 4, 5])

    def test_places_are_the_lines_rising(self):
        hall = Hall(Plan(2, ["93", "07", "50"], 3, []))
        answers = answers_of(hall, [("lift", "93"), ("lift", "50"), ("lift", "07")])
        self.assertEqual([answer[1][3] for answer in answers], [2, 1, 0])
        self.assertEqual(hall.paper(""), ("93", "50", "07"))


class Pulse(DeedCase):
    def test_nothing_comes_of_ten(self):
        self.do(("lift", "111"))
        for time in range(10):
            self.assertEqual(self.do(("pulse", "111")), [])
            self.assertEqual(of_line(self.hall, "111"), ("dials", "", [("", 0)], None, None))

    def test_the_eleventh_is_over(self):
        self.do(("lift", "111"), *[("pulse", "111")] * 10)
        self.assertEqual(self.do(("pulse", "111")), [("over", "111", "")])
        self.assertEqual(of_line(self.hall, "111"), ("told", "", [], None, ("over", "")))
        self.assertEqual(self.hall.paper(""), ("free", "free", "free"))

    def test_over_behind_some_figures(self):
        for figures in ("1", "10", "2", "25"):
            hall = Hall(small_plan())
            answers_of(hall, [*calls("111", figures), *[("pulse", "111")] * 10])
            self.assertEqual(hall.do(("pulse", "111")), [("over", "111", figures)])
            self.assertEqual(of_line(hall, "111"), ("told", figures, [], None, ("over", figures)))
            for where, many in (("", 3), ("1", 2), ("2", 1)):
                self.assertEqual(hall.paper(where), ("free",) * many)

    def test_counted_anew_behind_each_gap(self):
        self.do(("lift", "111"), *[("pulse", "111")] * 9, ("hang", "111"), ("lift", "111"))
        for time in range(10):
            self.assertEqual(self.do(("pulse", "111")), [])
        hall = Hall(Plan(4, ["0000"], 1, [("0", 1), ("00", 1)]))
        hall.do(("lift", "0000"))
        for come in (("takes", "0000", "0", 0), ("takes", "0000", "00", 0), ("figure", "0000", "000"),
                     ("busy", "0000", ("line", "0000", "dials"))):
            self.assertEqual(answers_of(hall, [("pulse", "0000")] * 10), [[]] * 10)
            self.assertEqual(hall.do(("gap", "0000")), [come])

    def test_pulses_of_two_lines_are_counted_apart(self):
        self.do(("lift", "111"), ("lift", "112"), *[("pulse", "111"), ("pulse", "112")] * 10)
        self.assertEqual(self.do(("pulse", "111")), [("over", "111", "")])
        self.assertEqual(self.hall.way("112"), "dials")
        self.assertEqual(self.do(("gap", "112")), [("none", "112", "0")])

    def test_over_gives_the_seeker_to_who_waits(self):
        self.do(("stick", "", 0), ("stick", "", 1), ("lift", "111"), ("lift", "211"), ("lift", "112"))
        self.do(*[("pulse", "111")] * 10)
        self.assertEqual(self.do(("pulse", "111")), [("over", "111", ""), ("tone", "211", 2, 4)])
        self.assertEqual(self.hall.waiting(), ["112"])


class GapToGroups(DeedCase):
    def test_each_figure(self):
        plan = Plan(3, ["111"], 1, [(figure, 1) for figure in "0123456789"])
        for many, figure in enumerate("1234567890", start=1):
            hall = Hall(plan)
            answers_of(hall, [("lift", "111"), *[("pulse", "111")] * many])
            self.assertEqual(hall.do(("gap", "111")), [("takes", "111", figure, 0)])
            self.assertEqual(of_line(hall, "111"), ("dials", figure, [("", 0), (figure, 0)], None, None))

    def test_one_pulse_and_ten(self):
        self.assertEqual(self.do(("lift", "111"), ("pulse", "111"), ("gap", "111")), [("takes", "111", "1", 0)])
        self.assertEqual(self.do(*calls("112", "0")), [("none", "112", "0")])

    def test_the_first_free_one_is_taken(self):
        self.assertEqual(self.do(*calls("111", "1")), [("takes", "111", "1", 0)])
        self.assertEqual(self.do(*calls("112", "1")), [("takes", "112", "1", 1)])
        self.do(("hang", "111"))
        self.assertEqual(self.do(*calls("113", "1")), [("takes", "113", "1", 0)])
        self.assertEqual(self.hall.paper("1"), ("113", "112"))
        self.assertEqual(self.hall.shares("1"), [2, 1])

    def test_a_prefix_that_is_no_groups(self):
        for figures in ("4", "9", "0"):
            hall = Hall(small_plan())
            self.assertEqual(answers_of(hall, calls("111", figures))[-1], [("none", "111", figures)])
            self.assertEqual(of_line(hall, "111"), ("told", figures, [], None, ("none", figures)))
            self.assertEqual(hall.paper(""), ("free", "free", "free"))

    def test_a_group_of_no_switch(self):
        self.assertEqual(self.do(*calls("111", "3")), [("busy", "111", ("group", "3", ()))])
        self.assertEqual(of_line(self.hall, "111"), ("told", "3", [], None, ("group", "3", ())))
        self.assertEqual(self.hall.paper(""), ("free", "free", "free"))

    def test_all_held(self):
        self.do(*calls("111", "1"), *calls("112", "1"))
        self.assertEqual(self.do(*calls("113", "1")), [("busy", "113", ("group", "1", ("111", "112")))])
        self.assertEqual(of_line(self.hall, "113"), ("told", "1", [], None, ("group", "1", ("111", "112"))))
        self.assertEqual(self.hall.paper(""), ("111", "112", "free"))
        self.assertEqual(self.hall.shares("1"), [1, 1])

    def test_all_stuck(self):
        self.do(("stick", "1", 0), ("stick", "1", 1))
        self.assertEqual(self.do(*calls("111", "1")), [("busy", "111", ("group", "1", ("stuck", "stuck")))])

    def test_some_held_some_stuck(self):
        self.do(*calls("111", "1"), ("stick", "1", 1))
        self.assertEqual(self.do(*calls("112", "1")), [("busy", "112", ("group", "1", ("111", "stuck")))])
        self.do(("hang", "112"), ("stick", "1", 0))
        self.assertEqual(self.do(*calls("112", "1")), [("busy", "112", ("group", "1", ("111", "stuck")))])
        self.do(("hang", "112"), ("hang", "111"))
        self.assertEqual(self.do(*calls("112", "1")), [("busy", "112", ("group", "1", ("stuck", "stuck")))])
        self.do(("mend", "1", 1), ("hang", "112"))
        self.assertEqual(self.do(*calls("112", "1")), [("takes", "112", "1", 1)])

    def test_busy_gives_the_seeker_to_who_waits(self):
        self.do(*at_seekers("stick", 2), ("lift", "111"), ("lift", "211"), ("lift", "112"))
        come = [("busy", "111", ("group", "3", ())), ("tone", "211", 2, 4)]
        self.assertEqual(self.do(*dialled("111", "3")), come)
        self.assertEqual(self.hall.waiting(), ["112"])

    def test_a_paper_stays_as_it_was_told(self):
        self.do(*calls("111", "1"), *calls("112", "1"), *calls("113", "1"), ("hang", "111"), ("stick", "1", 0))
        self.assertEqual(self.hall.told_paper("113"), ("group", "1", ("111", "112")))
        self.assertEqual(self.hall.paper("1"), ("stuck", "112"))

    def test_two_switches_where_long_is_four(self):
        hall = Hall(Plan(4, ["1234", "1299"], 2, [("1", 2), ("12", 3), ("13", 0)]))
        answers = [answer for answer in answers_of(hall, calls("1299", "1234")) if answer]
        self.assertEqual(answers, [
            [("waits", "1299"), ("tone", "1299", 0, 1)], [("takes", "1299", "1", 0)], [("takes", "1299", "12", 0)],
            [("figure", "1299", "123")], [("rings", "1299", "1234")],
        ])
        self.assertEqual(hall.holds("1299"), [("", 0), ("1", 0), ("12", 0)])
        self.assertEqual((hall.paper(""), hall.paper("1"), hall.paper("12"), hall.paper("13")),
                         (("1299", "free"), ("1299", "free"), ("1299", "free", "free"), ()))

    def test_told_at_the_second_switch(self):
        plan = Plan(4, ["1234", "1299"], 2, [("1", 2), ("12", 1), ("13", 0)])
        for figures, come in (("13", ("busy", "1234", ("group", "13", ()))), ("14", ("none", "1234", "14")),
                              ("12", ("busy", "1234", ("group", "12", ("1299",))))):
            hall = Hall(plan)
            answers_of(hall, calls("1299", "12"))
            self.assertEqual(answers_of(hall, calls("1234", figures))[-1], [come])
            self.assertEqual(hall.holds("1234"), [])
            self.assertEqual((hall.paper(""), hall.paper("1"), hall.paper("12")),
                             (("1299", "free"), ("1299", "free"), ("1299",)))
            self.assertEqual(hall.shares("1"), [1, 1])

    def test_a_longer_prefix_needs_its_shorter_one(self):
        hall = Hall(Plan(4, ["1234"], 1, [("12", 3)]))
        self.assertEqual(answers_of(hall, calls("1234", "1"))[-1], [("none", "1234", "1")])

    def test_no_group_where_long_is_two(self):
        hall = Hall(Plan(2, ["12", "34"], 2, []))
        self.assertEqual(answers_of(hall, calls("12", "3"))[-1], [("figure", "12", "3")])
        self.assertEqual(hall.holds("12"), [("", 0)])
        self.assertEqual(answers_of(hall, dialled("12", "4"))[-1], [("rings", "12", "34")])
        self.assertEqual(hall.holds("12"), [("", 0)])
        self.assertEqual(hall.do(("lift", "34")), [("talks", "12", "34")])


class GapToLines(DeedCase):
    def test_the_figure_ahead_of_the_last_one(self):
        self.assertEqual(self.do(*calls("111", "19")), [("figure", "111", "19")])
        self.assertEqual(of_line(self.hall, "111"), ("dials", "19", [("", 0), ("1", 0)], None, None))

    def test_a_line_that_rests_is_rung(self):
        self.assertEqual(self.do(*calls("111", "112")), [("rings", "111", "112")])
        self.assertEqual(of_line(self.hall, "111"), ("rings", "112", [("", 0), ("1", 0)], "112", None))
        self.assertEqual(of_line(self.hall, "112"), ("rung", "", [], "111", None))

    def test_a_number_that_is_no_lines(self):
        for figures in ("119", "110", "190", "222"):
            hall = Hall(small_plan())
            self.assertEqual(answers_of(hall, calls("111", figures))[-1], [("none", "111", figures)])
            self.assertEqual(of_line(hall, "111"), ("told", figures, [], None, ("none", figures)))
            for where, many in (("", 3), ("1", 2), ("2", 1)):
                self.assertEqual(hall.paper(where), ("free",) * many)

    def test_the_caller_itself(self):
        self.assertEqual(self.do(*calls("111", "111")), [("busy", "111", ("line", "111", "dials"))])
        self.assertEqual(of_line(self.hall, "111"), ("told", "111", [], None, ("line", "111", "dials")))
        self.assertEqual(self.hall.paper(""), ("free", "free", "free"))
        self.assertEqual(self.hall.paper("1"), ("free", "free"))

    def test_a_line_in_each_way(self):
        for name, (way, deeds) in SCENES.items():
            hall = scene(name)
            for k in range(3):
                hall.do(("mend", "", k))
            if name == "waits":
                # The mended seekers gave it its tone: it has to wait anew, behind the caller.
                hall.do(("hang", "111"))
                hall.do(("lift", "211"))
                answers_of(hall, at_seekers("stick", 3))
                hall.do(("lift", "111"))
            else:
                hall.do(("lift", "211"))
            self.assertEqual(hall.way("111"), way, name)
            ahead = of_line(hall, "111")
            come = answers_of(hall, dialled("211", "111"))[-1]
            if way == "rests":
                self.assertEqual(come, [("rings", "211", "111")])
                self.assertEqual(of_line(hall, "111"), ("rung", "", [], "211", None))
            else:
                self.assertEqual(come, [("busy", "211", ("line", "111", way))], name)
                self.assertEqual(of_line(hall, "111"), ahead)
                self.assertEqual(of_line(hall, "211"), ("told", "111", [], None, ("line", "111", way)))

    def test_busy_at_a_line_gives_the_seeker_to_who_waits(self):
        self.do(*at_seekers("stick", 2), ("lift", "111"), ("lift", "211"), ("lift", "112"))
        come = [("busy", "111", ("line", "112", "waits")), ("tone", "211", 2, 4)]
        self.assertEqual(self.do(*dialled("111", "112")), come)

    def test_none_gives_the_seeker_to_who_waits(self):
        self.do(*at_seekers("stick", 2), ("lift", "111"), ("lift", "211"), ("lift", "112"))
        self.assertEqual(self.do(*dialled("111", "119")), [("none", "111", "119"), ("tone", "211", 2, 4)])
        self.assertEqual(self.do(*dialled("211", "9")), [("none", "211", "9"), ("tone", "112", 2, 2)])


class Hang(DeedCase):
    def test_a_line_that_waits(self):
        self.do(*at_seekers("stick", 3), ("lift", "111"), ("lift", "112"), ("lift", "113"))
        self.assertEqual(self.do(("hang", "112")), [("rests", "112")])
        self.assertEqual(self.hall.waiting(), ["111", "113"])
        self.assertEqual(self.hall.way("112"), "rests")
        self.assertEqual(self.do(("lift", "112")), [("waits", "112")])
        self.assertEqual(self.hall.waiting(), ["111", "113", "112"])

    def test_a_line_that_dials(self):
        for figures, wheres in (("", [""]), ("1", ["", "1"]), ("12", ["", "1"]), ("2", ["", "2"])):
            hall = Hall(small_plan())
            answers_of(hall, [*calls("111", figures), ("pulse", "111")])
            self.assertEqual([where for where, k in hall.holds("111")], wheres)
            self.assertEqual(hall.do(("hang", "111")), [("rests", "111")])
            self.assertEqual(of_line(hall, "111"), ("rests", "", [], None, None))
            for where, many in (("", 3), ("1", 2), ("2", 1)):
                self.assertEqual(hall.paper(where), ("free",) * many)

    def test_nothing_is_left_of_what_was_dialled(self):
        self.do(*calls("111", "1"), *[("pulse", "111")] * 5, ("hang", "111"), ("lift", "111"))
        self.refused(NotSo, self.hall.do, ("gap", "111"))
        self.assertEqual(self.do(*dialled("111", "2")), [("takes", "111", "2", 0)])

    def test_a_line_that_rings(self):
        self.do(*calls("111", "112"))
        self.assertEqual(self.do(("hang", "111")), [("rests", "111"), ("quiet", "112")])
        for line in ("111", "112"):
            self.assertEqual(of_line(self.hall, line), ("rests", "", [], None, None))
        self.assertEqual((self.hall.paper(""), self.hall.paper("1")), (("free",) * 3, ("free",) * 2))

    def test_a_caller_that_talks(self):
        self.do(*calls("111", "211"), ("lift", "211"))
        come = [("rests", "111"), ("waits", "211"), ("tone", "211", 1, 4)]
        self.assertEqual(self.do(("hang", "111")), come)
        self.assertEqual(of_line(self.hall, "111"), ("rests", "", [], None, None))
        self.assertEqual(of_line(self.hall, "211"), ("dials", "", [("", 1)], None, None))
        self.assertEqual(self.hall.paper("2"), ("free",))

    def test_the_called_end_of_a_talk(self):
        self.do(*calls("111", "211"), ("lift", "211"))
        come = [("rests", "211"), ("waits", "111"), ("tone", "111", 1, 0)]
        self.assertEqual(self.do(("hang", "211")), come)
        self.assertEqual(of_line(self.hall, "211"), ("rests", "", [], None, None))
        self.assertEqual(of_line(self.hall, "111"), ("dials", "", [("", 1)], None, None))
        self.assertEqual(self.hall.paper(""), ("free", "111", "free"))
        self.assertEqual(self.hall.paper("2"), ("free",))

    def test_the_other_end_waits_behind_all_that_wait(self):
        for one, other in (("111", "211"), ("211", "111")):
            hall = Hall(Plan(3, ["111", "112", "113", "211"], 1, [("2", 1)]))
            answers_of(hall, [*calls("111", "211"), ("lift", "211"), ("lift", "113"), ("lift", "112")])
            self.assertEqual(hall.waiting(), ["113", "112"])
            self.assertEqual(hall.do(("hang", one)), [("rests", one), ("waits", other), ("tone", "113", 0, 2)])
            self.assertEqual(hall.waiting(), ["112", other])
            self.assertEqual(of_line(hall, other), ("waits", "", [], None, None))

    def test_the_other_end_waits_where_no_seeker_is_free(self):
        self.do(*calls("111", "211"), ("lift", "211"), *at_seekers("stick", 3))
        self.assertEqual(self.do(("hang", "211")), [("rests", "211"), ("waits", "111")])
        self.assertEqual(self.hall.waiting(), ["111"])
        self.assertEqual(self.hall.paper(""), ("stuck", "stuck", "stuck"))
        self.assertEqual(self.hall.paper("2"), ("free",))

    def test_a_line_that_is_told(self):
        for name, (way, deeds) in SCENES.items():
            if way == "told":
                hall = scene(name)
                self.assertEqual(hall.do(("hang", "111")), [("rests", "111")])
                self.assertEqual(of_line(hall, "111"), ("rests", "", [], None, None))
                self.assertEqual(hall.do(("lift", "111"))[0], ("waits", "111"))

    def test_hung_up_the_seeker_goes_to_who_waits_longest(self):
        plan = Plan(3, ["111", "112", "113", "211"], 1, [("1", 2), ("2", 1)])
        for figures, come in (("", []), ("1", []), ("211", [("quiet", "211")])):
            hall = Hall(plan)
            answers_of(hall, [*calls("111", figures), ("lift", "113"), ("lift", "112")])
            self.assertEqual(hall.do(("hang", "111")), [("rests", "111"), *come, ("tone", "113", 0, 2)])
            self.assertEqual(hall.do(("hang", "113")), [("rests", "113"), ("tone", "112", 0, 3)])
            self.assertEqual(hall.waiting(), [])

    def test_rung_by_another_behind_a_hang(self):
        self.do(*calls("111", "112"), ("hang", "111"))
        self.assertEqual(self.do(*calls("211", "112")), [("rings", "211", "112")])
        self.assertEqual((self.hall.other("112"), self.hall.other("111")), ("211", None))


class StickAndMend(DeedCase):
    def test_nothing_comes_of_them(self):
        for where, k in (("", 0), ("", 2), ("1", 0), ("1", 1), ("2", 0)):
            for word in ("mend", "stick", "stick", "mend", "mend"):
                self.assertEqual(self.do((word, where, k)), [])

    def test_papers(self):
        self.do(("stick", "", 2), ("stick", "1", 0), ("lift", "111"))
        self.assertEqual((self.hall.paper(""), self.hall.paper("1")), (("111", "free", "stuck"), ("stuck", "free")))
        self.do(("stick", "", 0))
        self.assertEqual(self.hall.paper(""), ("111", "free", "stuck"))
        self.do(("hang", "111"))
        self.assertEqual(self.hall.paper(""), ("stuck", "free", "stuck"))
        self.do(*at_seekers("mend", 3), ("mend", "1", 0))
        self.assertEqual((self.hall.paper(""), self.hall.paper("1")), (("free",) * 3, ("free",) * 2))

    def test_stuck_seekers_are_gone_round(self):
        self.do(("stick", "", 0), ("stick", "", 1))
        self.assertEqual(self.do(("lift", "112")), [("waits", "112"), ("tone", "112", 2, 1)])
        self.do(("hang", "112"))
        self.assertEqual(self.do(("lift", "112")), [("waits", "112"), ("tone", "112", 2, 0)])

    def test_all_stuck_then_mended(self):
        self.do(*at_seekers("stick", 3))
        self.assertEqual(self.do(("lift", "211")), [("waits", "211")])
        self.assertEqual(self.do(("lift", "111")), [("waits", "111")])
        self.assertEqual(self.do(("lift", "113")), [("waits", "113")])
        self.assertEqual(self.do(("mend", "1", 0)), [])
        self.assertEqual(self.do(("mend", "", 1)), [("tone", "211", 1, 4)])
        self.assertEqual(self.do(("mend", "", 1)), [])
        self.assertEqual(self.do(("mend", "", 0)), [("tone", "111", 0, 0)])
        self.assertEqual(self.do(("mend", "", 2)), [("tone", "113", 2, 2)])
        self.assertEqual(self.hall.waiting(), [])

    def test_a_call_goes_on_by_stuck_switches(self):
        self.do(*calls("111", "1"), ("stick", "", 0), ("stick", "1", 0))
        self.assertEqual(self.do(*dialled("111", "12")), [("rings", "111", "112")])
        self.assertEqual(self.do(("lift", "112")), [("talks", "111", "112")])
        self.assertEqual(self.hall.holds("111"), [("", 0), ("1", 0)])
        self.do(*at_seekers("stick", 3), ("hang", "112"))
        self.assertEqual(self.hall.paper("1"), ("stuck", "free"))

    def test_a_mended_seeker_that_is_held_gives_no_tone(self):
        hall = Hall(Plan(3, ["111", "112"], 1, []))
        answers_of(hall, [("lift", "111"), ("stick", "", 0), ("lift", "112")])
        self.assertEqual(hall.do(("mend", "", 0)), [])
        self.assertEqual(hall.do(("hang", "111")), [("rests", "111"), ("tone", "112", 0, 1)])

    def test_a_freed_seeker_that_is_stuck_gives_its_tone_once_it_is_mended(self):
        hall = Hall(Plan(3, ["111", "112"], 1, []))
        answers_of(hall, [("lift", "111"), ("stick", "", 0), ("lift", "112")])
        self.assertEqual(hall.do(("hang", "111")), [("rests", "111")])
        self.assertEqual(hall.do(("lift", "111")), [("waits", "111")])
        self.assertEqual(hall.do(("mend", "", 0)), [("tone", "112", 0, 1)])
        self.assertEqual(hall.waiting(), ["111"])


class GreatHall(HallCase):
    def test_sixty_lines_and_forty_groups_of_ten(self):
        prefixes = [str(k) for k in range(4)] + [str(k).zfill(2) for k in range(36)]
        plan = Plan(4, [str(k).zfill(4) for k in range(0, 4000, 67)][:60], 60, [(prefix, 10) for prefix in prefixes])
        hall = Hall(plan)
        answers = answers_of(hall, [("lift", line) for line in plan.lines])
        self.assertEqual(answers, [[("waits", line), ("tone", line, k, k)] for k, line in enumerate(plan.lines)])
        self.assertEqual(hall.paper(""), plan.lines)
        self.assertEqual(hall.steps(), list(range(60)))
        for k, line in enumerate(plan.lines[:10]):
            self.assertEqual(answers_of(hall, dialled(line, "2"))[-1], [("takes", line, "2", k)])
        paper = ("group", "2", plan.lines[:10])
        self.assertEqual(answers_of(hall, dialled(plan.lines[10], "2"))[-1], [("busy", plan.lines[10], paper)])
        self.assertEqual(hall.do(("hang", plan.lines[4])), [("rests", plan.lines[4])])
        self.assertEqual(answers_of(hall, dialled(plan.lines[11], "2"))[-1], [("takes", plan.lines[11], "2", 4)])
        self.assertEqual(hall.shares("2"), [1, 1, 1, 1, 2, 1, 1, 1, 1, 1])

    def test_sixty_lines_and_one_seeker(self):
        plan = Plan(2, [str(k) for k in range(20, 80)], 1, [])
        hall = Hall(plan)
        for line in reversed(plan.lines):
            hall.do(("lift", line))
        self.assertEqual(hall.waiting(), list(plan.lines[-2::-1]))
        for place in range(59, 0, -1):
            come = [("rests", plan.lines[place]), ("tone", plan.lines[place - 1], 0, 59)]
            self.assertEqual(hall.do(("hang", plan.lines[place])), come)
        self.assertEqual(hall.steps(), [59 * 60])


if __name__ == "__main__":
    unittest.main()
