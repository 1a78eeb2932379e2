import unittest

from stephall.desk import Desk
from stephall.errors import NoLine, NoRow, NoSwitch, NothingLeft, NotSo
from stephall.plans import plan_text
from tests.helper import OTHER_SIGNS, SCENES, HallCase, asked_at, desk_in, small_plan

LINE_DEEDS = ("lift", "hang", "pulse", "gap")
LINE_ASKS = ("way", "figures", "other", "holds", "why")
ALONE = ("waiting", "steps", "back", "again", "calls", "waits")
# Each row that is listed, well formed.
ROWS = (*[f"{word} 111" for word in LINE_DEEDS + LINE_ASKS], "stick - 0", "mend 1 1", "stick 2 60", "dial 111 112",
        "paper -", "paper 1", "shares -", "shares 1", *ALONE)
# Words for LINE and for WHERE that name none.
STRANGERS = ("999", "1111", "11", "x", "--", "-0", "none", "lift", "stuck", "free", "111\n", "\n", "1;", "~" * 15000)


class RefusalCase(HallCase):
    def setUp(self):
        self.desk = Desk(plan_text(small_plan()))

    def stays(self, kind, *rows):
        """Each row is refused with just this class, also a second time, and changes nothing."""
        ahead = asked_at(self.desk, small_plan())
        for row in rows:
            for time in range(2):
                self.refused(kind, self.desk.say, row)
        self.assertEqual(asked_at(self.desk, small_plan()), ahead)

    def busy_desk(self):
        """Something to take back, something to do again, a line that waits, a call, a pulse."""
        for row in ("stick - 2", "lift 111", "dial 111 112", "lift 121", "pulse 121", "lift 113", "stick 1 1",
                    "stick 2 0", "back", "back"):
            self.desk.say(row)

    def untouched(self):
        """Fails unless all that the busy desk had is there: what can be done again, and the pulse."""
        self.assertEqual(self.desk.say("again"), "ok")
        self.assertEqual(self.desk.say("paper 1"), "111 stuck")
        self.assertEqual(self.desk.say("again"), "ok")
        self.assertEqual(self.desk.say("paper 2"), "stuck")
        self.refused(NothingLeft, self.desk.say, "again")
        self.assertEqual(self.desk.say("gap 121"), "busy 121 group 1 111 stuck; tone 113 1 4")


class NoRows(RefusalCase):
    def test_what_is_no_text(self):
        self.stays(NoRow, None, 0, 7, -1, [], ["lift 111"], ["waiting"], (), ("lift", "111"), ("waiting",), {},
                   {"waiting": 1}, b"waiting", True, False, object())

    def test_the_row_without_signs(self):
        self.stays(NoRow, "")

    def test_blanks_at_the_beginning_at_the_end_and_two_together(self):
        for row in ROWS:
            self.stays(NoRow, f" {row}", f"{row} ", f"  {row}", f"{row}  ", f" {row} ")
            if " " in row:
                self.stays(NoRow, row.replace(" ", "  "), row.replace(" ", "  ", 1), row.replace(" ", "   ", 1))
        self.stays(NoRow, " ", "  ", "   ")

    def test_words_too_many(self):
        for row in ROWS:
            self.stays(NoRow, f"{row} 1", f"{row} x", f"{row} -", f"{row} 111", f"{row} 1 1", f"{row} ok")

    def test_words_too_few(self):
        for row in ROWS:
            words = row.split(" ")
            for many in range(1, len(words)):
                self.stays(NoRow, " ".join(words[:many]))

    def test_another_word(self):
        self.stays(NoRow, "x", "x 111", "lifts 111", "lif 111", "call 111", "wait", "deeds", "left", "hall", "do 111",
                   "tone 111", "-", "111", "111 lift", "- waiting", "ok", "none", "long 3", "seekers", "free - 0",
                   "take 1", "told_paper 111", "mark", "waiting\n", "\nwaiting", "lift\n111", "lift\n 111", "\n",
                   "back;", "back; back", "~" * 20000, "waiting," * 2000)

    def test_the_same_in_capitals(self):
        for row in ROWS:
            word = row.split(" ")[0]
            self.stays(NoRow, row.replace(word, word.upper(), 1), row.replace(word, word.capitalize(), 1))

    def test_no_number(self):
        ks = ("000", "100", "007", "123", "00", "07", "01", "+1", "-1", "-0", "+", "-", "x", "1x", "x1", "O", "1.",
              ".5", "1,", "0x", "1\n", "\n1", "\n", "one", "0" * 20)
        for word in ("stick", "mend"):
            for where in ("-", "1", "2"):
                self.stays(NoRow, *[f"{word} {where} {k}" for k in ks])
        self.stays(NoRow, *[f"stick - {sign}" for sign in OTHER_SIGNS], *[f"mend 1 1{sign}" for sign in OTHER_SIGNS])

    def test_no_figures(self):
        self.desk.say("lift 111")
        bad = ("x", "1x", "x1", "1-1", "-", "-1", "+1", "1.1", "1,1", "11\n", "\n11", "1\n1", "\n", "none", "O")
        self.stays(NoRow, *[f"dial 111 {figures}" for figures in bad], "dial 111 ", "dial 111", "dial 111 1 1")
        self.stays(NoRow, *[f"dial 111 1{sign}1" for sign in OTHER_SIGNS])
        self.stays(NoRow, *[f"dial 111 {sign}" for sign in OTHER_SIGNS])
        self.stays(NoRow, "dial 111 " + "1" * 15000 + "x")
        self.assertEqual(self.desk.say("figures 111"), "none")

    def test_at_a_busy_desk_nothing_changes(self):
        self.busy_desk()
        self.stays(NoRow, None, "", "x", "back 1", "again x", " again", "again ", "pulse", "pulse  121", "hang 121 ",
                   "dial 121 x", "dial 121", "stick - 00", "mend - 002", "mend - +2", "Back", "AGAIN", "lift 112 112")
        self.untouched()


class TwoFaults(RefusalCase):
    def test_no_row_ahead_of_no_line(self):
        self.stays(NoRow, "lift 999 1", "way 999 ", " hang 999", "dial 999 x", "dial 999", "dial x 1x", "gap  x")

    def test_no_row_ahead_of_no_switch(self):
        self.stays(NoRow, "stick 9 00", "stick 9 x", "mend x 100", "mend 3 -1", "stick - 060", "paper 9 1", "shares x ")

    def test_no_row_ahead_of_not_so(self):
        self.stays(NoRow, "hang 111 ", "pulse 111 1", "gap  111", "dial 111 x", "dial 111 -1", "dial 112 ")

    def test_no_row_ahead_of_nothing_left(self):
        self.stays(NoRow, "back 1", "again 1", "back ", " again", "Back", "back  ")

    def test_no_line_ahead_of_not_so(self):
        # At a desk where no line dials.
        self.stays(NoLine, "dial 999 1", "dial x 1", "dial - 1")
        self.stays(NotSo, "dial 111 1", "dial 211 999")


class AsTheHall(RefusalCase):
    def test_no_line(self):
        for name in SCENES:
            self.desk = desk_in(name)
            for word in LINE_DEEDS + LINE_ASKS:
                self.stays(NoLine, *[f"{word} {line}" for line in (*STRANGERS, "-")])
            self.stays(NoLine, *[f"dial {line} 1" for line in (*STRANGERS, "-")])

    def test_no_switch(self):
        for name in SCENES:
            self.desk = desk_in(name)
            for word in ("stick", "mend"):
                self.stays(NoSwitch, *[f"{word} {where} 0" for where in (*STRANGERS, "4", "111", "-\n")])
                self.stays(NoSwitch, f"{word} - 3", f"{word} - 99", f"{word} 1 2", f"{word} 2 1", f"{word} 3 0")
            for word in ("paper", "shares"):
                self.stays(NoSwitch, *[f"{word} {where}" for where in (*STRANGERS, "4", "111", "-\n")])

    def test_not_so(self):
        allowed = {"rests": ["lift"], "rung": ["lift"], "dials": ["hang", "pulse"]}
        for name, (way, deeds) in SCENES.items():
            self.desk = desk_in(name)
            can = allowed.get(way, ["hang"]) + (["gap"] if name == "dials, a pulse" else [])
            self.stays(NotSo, *[f"{word} 111" for word in LINE_DEEDS if word not in can])
            if way != "dials":
                self.stays(NotSo, "dial 111 1", "dial 111 112", "dial 111 0")

    def test_nothing_left(self):
        self.stays(NothingLeft, "back", "again")
        self.desk.say("lift 111")
        self.stays(NothingLeft, "again")
        self.desk.say("back")
        self.stays(NothingLeft, "back")
        self.assertEqual(self.desk.say("again"), "waits 111; tone 111 0 0")
        self.desk.say("dial 111 1")
        self.stays(NothingLeft, "again")

    def test_at_a_busy_desk_nothing_changes(self):
        self.busy_desk()
        self.stays(NoLine, "lift x", "dial x 1")
        self.stays(NoSwitch, "stick 9 0", "mend - 3")
        self.stays(NotSo, "dial 111 1", "dial 113 1", "dial 112 1", "lift 121", "hang 112", "pulse 113", "gap 113")
        self.untouched()


if __name__ == "__main__":
    unittest.main()
