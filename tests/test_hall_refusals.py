import unittest

from stephall.errors import NoLine, NoSwitch, NotSo
from stephall.halls import Hall
from stephall.plans import Plan
from tests.helper import FAR, NO_NUMBERS, SCENES, HallCase, answers_of, asked, calls, of_line, scene, small_plan

LINE_WORDS = ("lift", "hang", "pulse", "gap")
NO_LINES = ("", "1", "11", "119", "000", "1111", *NO_NUMBERS)
NO_WHERES = ("0", "4", "11", "111", "12", *NO_NUMBERS)


def can_be_done(name):
    """The deeds at line 111 that can be done in a scene."""
    if name == "dials, a pulse":
        return ["hang", "pulse", "gap"]
    by_way = {"rests": ["lift"], "rung": ["lift"], "dials": ["hang", "pulse"]}
    return by_way.get(SCENES[name][0], ["hang"])


class Refused(HallCase):
    def stays(self, hall, kind, deed):
        """A deed is refused, also a second time, and changes nothing."""
        ahead = asked(hall, small_plan())
        for time in range(2):
            self.refused(kind, hall.do, deed)
            self.assertEqual(asked(hall, small_plan()), ahead, deed)

    def test_each_deed_in_each_way(self):
        for name in SCENES:
            for word in LINE_WORDS:
                if word in can_be_done(name):
                    self.assertIs(type(scene(name).do((word, "111"))), list)
                else:
                    self.stays(scene(name), NotSo, (word, "111"))

    def test_no_line_in_each_way(self):
        for name in SCENES:
            for word in LINE_WORDS:
                for line in NO_LINES:
                    self.stays(scene(name), NoLine, (word, line))

    def test_no_where_in_each_way(self):
        for name in SCENES:
            for word in ("stick", "mend"):
                for where in NO_WHERES:
                    for k in (0, -1, FAR[0]):
                        self.stays(scene(name), NoSwitch, (word, where, k))

    def test_no_number_there_in_each_way(self):
        for name in SCENES:
            for word in ("stick", "mend"):
                for where, many in (("", 3), ("1", 2), ("2", 1), ("3", 0)):
                    for k in (-1, -many - 1, many, many + 1, 60, *FAR):
                        self.stays(scene(name), NoSwitch, (word, where, k))

    def test_truths_are_no_numbers(self):
        for truth in (True, False):
            self.stays(scene("waits"), NoSwitch, ("mend", "", truth))

    def test_no_gap_behind_a_gap_or_a_tone(self):
        for figures in ("", "1", "11"):
            hall = Hall(small_plan())
            answers_of(hall, calls("111", figures))
            self.stays(hall, NotSo, ("gap", "111"))

    def test_no_pulse_is_lost_by_a_refusal(self):
        hall = Hall(small_plan())
        answers_of(hall, [("lift", "111"), ("pulse", "111")])
        for deed, kind in ((("lift", "111"), NotSo), (("pulse", "112"), NotSo), (("gap", "119"), NoLine),
                           (("stick", "", 3), NoSwitch)):
            self.refused(kind, hall.do, deed)
        self.assertEqual(hall.do(("pulse", "111")), [])
        self.assertEqual(hall.do(("gap", "111")), [("takes", "111", "2", 0)])

    def test_a_refused_pulse_is_not_counted_as_the_eleventh(self):
        hall = Hall(small_plan())
        answers_of(hall, [("lift", "111"), *[("pulse", "111")] * 10])
        self.refused(NotSo, hall.do, ("lift", "111"))
        self.assertEqual(hall.do(("gap", "111")), [("none", "111", "0")])
        for word in ("pulse", "gap", "lift"):
            self.refused(NotSo, hall.do, (word, "111"))

    def test_no_tone_behind_a_refusal(self):
        hall = Hall(Plan(2, ["11", "12"], 1, []))
        answers_of(hall, [("lift", "11"), ("lift", "12")])
        for deed in (("lift", "11"), ("lift", "12"), ("pulse", "12"), ("gap", "11"), ("gap", "12")):
            self.refused(NotSo, hall.do, deed)
        self.assertEqual(hall.waiting(), ["12"])

    def test_what_is_dialled_anew_behind_a_telling(self):
        hall = scene("told over")
        self.stays(hall, NotSo, ("pulse", "111"))
        answers_of(hall, [("hang", "111"), ("lift", "111")])
        self.stays(hall, NotSo, ("gap", "111"))
        self.assertEqual(hall.do(("pulse", "111")), [])


class Asked(HallCase):
    def test_of_a_line_in_each_way(self):
        told = {
            "rests": ("rests", "", [], None, None),
            "waits": ("waits", "", [], None, None),
            "dials": ("dials", "", [("", 0)], None, None),
            "dials, a pulse": ("dials", "", [("", 0)], None, None),
            "dials, a switch": ("dials", "1", [("", 0), ("1", 0)], None, None),
            "dials, a figure more": ("dials", "11", [("", 0), ("1", 0)], None, None),
            "rings": ("rings", "112", [("", 0), ("1", 0)], "112", None),
            "rung": ("rung", "", [], "112", None),
            "talks, calling": ("talks", "112", [("", 0), ("1", 0)], "112", None),
            "talks, called": ("talks", "", [], "112", None),
            "told over": ("told", "", [], None, ("over", "")),
            "told none, a prefix": ("told", "9", [], None, ("none", "9")),
            "told none, a number": ("told", "119", [], None, ("none", "119")),
            "told busy, a group": ("told", "3", [], None, ("group", "3", ())),
            "told busy, a line": ("told", "111", [], None, ("line", "111", "dials")),
        }
        self.assertEqual(list(told), list(SCENES))
        for name in SCENES:
            self.assertEqual(of_line(scene(name), "111"), told[name], name)

    def test_the_other_end(self):
        ends = {"rings": ("rung", "", [], "111", None), "talks, calling": ("talks", "", [], "111", None),
                "rung": ("rings", "111", [("", 0), ("1", 0)], "111", None),
                "talks, called": ("talks", "111", [("", 0), ("1", 0)], "111", None)}
        for name, end in ends.items():
            self.assertEqual(of_line(scene(name), "112"), end)

    def test_no_such_line(self):
        for name in SCENES:
            hall = scene(name)
            for ask in (hall.way, hall.figures, hall.holds, hall.other, hall.told_paper):
                for line in NO_LINES:
                    self.refused(NoLine, ask, line)

    def test_no_such_where(self):
        for name in SCENES:
            hall = scene(name)
            for ask in (hall.paper, hall.shares):
                for where in NO_WHERES:
                    self.refused(NoSwitch, ask, where)

    def test_the_papers_hold_numbers_of_lines(self):
        hall = Hall(Plan(3, ["901", "702", "503"], 2, [("9", 1)]))
        answers_of(hall, [*calls("901", "9"), ("stick", "", 1), ("lift", "503")])
        self.assertEqual((hall.paper(""), hall.paper("9")), (("901", "stuck"), ("901",)))
        self.assertEqual(hall.do(("mend", "", 1)), [("tone", "503", 1, 0)])
        self.assertEqual(hall.paper(""), ("901", "503"))
        hall.do(("stick", "", 0))
        self.assertEqual(hall.paper(""), ("901", "503"))
        hall.do(("hang", "901"))
        self.assertEqual(hall.paper(""), ("stuck", "503"))

    def test_papers_are_tuples(self):
        for name in SCENES:
            for where in ("", "1", "2", "3"):
                self.assertIs(type(scene(name).paper(where)), tuple)
        for name, (way, deeds) in SCENES.items():
            if way == "told":
                self.assertIs(type(scene(name).told_paper("111")), tuple)

    def test_shares_of_each_where(self):
        hall = Hall(small_plan())
        for time in range(4):
            answers_of(hall, [*calls("111", "1"), *calls("112", "1"), *calls("113", "2"), ("hang", "111"),
                              ("hang", "112"), ("hang", "113")])
        self.assertEqual([hall.shares(where) for where in ("", "1", "2", "3")], [[4, 4, 4], [4, 4], [4], []])

    def test_deeds_that_were_done(self):
        hall = Hall(small_plan())
        done = []
        for deed, well in ((("lift", "111"), True), (("lift", "111"), False), (("gap", "111"), False),
                           (("stick", "1", 1), True), (("stick", "1", 2), False), (("stick", "1", 1), True),
                           (("mend", "", 0), True), (("pulse", "111"), True), (("pulse", "x"), False),
                           (("gap", "111"), True), (("hang", "112"), False), (("hang", "111"), True)):
            if well:
                hall.do(deed)
                done.append(deed)
            else:
                self.assertRaises(ValueError, hall.do, deed)
            self.assertEqual(hall.deeds(), done)
        self.assertEqual({type(deed) for deed in hall.deeds()}, {tuple})

    def test_waiting(self):
        hall = Hall(Plan(2, ["11", "12", "13", "14"], 1, []))
        waiting = []
        for line in ("13", "11", "14", "12"):
            self.assertEqual(hall.waiting(), waiting[1:])
            hall.do(("lift", line))
            waiting.append(line)
        hall.do(("hang", "14"))
        self.assertEqual(hall.waiting(), ["11", "12"])
        hall.do(("hang", "13"))
        self.assertEqual(hall.waiting(), ["12"])


class OwnLists(HallCase):
    def test_lists_are_the_askers_own(self):
        for name in SCENES:
            hall = scene(name)
            hall.do(("stick", "1", 1))
            ahead = asked(hall, small_plan())
            asks = [lambda: hall.holds("111"), lambda: hall.holds("112"), lambda: hall.shares(""),
                    lambda: hall.shares("1"), lambda: hall.shares("3"), hall.waiting, hall.steps, hall.deeds]
            lists = [ask() for ask in asks] + [ask() for ask in asks]
            self.assertEqual(len({id(one) for one in lists}), len(lists))
            for one in lists:
                self.assertIs(type(one), list)
                one.append("mine")
                one[0] = "mine"
                one.reverse()
            self.assertEqual(asked(hall, small_plan()), ahead)

    def test_answers_are_the_askers_own(self):
        hall = Hall(small_plan())
        for deed in [("lift", "111"), ("pulse", "111"), ("pulse", "111"), ("gap", "111"), ("stick", "", 1),
                     ("hang", "111")]:
            answer = hall.do(deed)
            ahead = asked(hall, small_plan())
            self.assertIs(type(answer), list)
            for come in answer:
                self.assertIs(type(come), tuple)
            answer.append("mine")
            answer[0] = "mine"
            self.assertEqual(asked(hall, small_plan()), ahead)
        first, second = hall.do(("mend", "", 0)), hall.do(("mend", "", 0))
        self.assertIsNot(first, second)

    def test_a_told_list_stays_when_more_is_done(self):
        hall = scene("talks, calling")
        lists = [hall.holds("111"), hall.shares(""), hall.shares("1"), hall.waiting(), hall.steps(), hall.deeds()]
        copies = [list(one) for one in lists]
        answers_of(hall, [("hang", "111"), ("lift", "211"), ("lift", "113"), ("lift", "121")])
        self.assertEqual(lists, copies)

    def test_asked_twice(self):
        for name in SCENES:
            hall = scene(name)
            self.assertEqual(asked(hall, small_plan()), asked(hall, small_plan()))


if __name__ == "__main__":
    unittest.main()
