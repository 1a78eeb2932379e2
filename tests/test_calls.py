import copy
import random
import unittest

from stephall.calls import calls_of, waits_of
from stephall.figures import dialled
from stephall.halls import Hall
from stephall.plans import Plan
from tests.helper import (
    SCENES, Book, HallCase, answer_or_kind, any_deeds, any_rows, at_seekers, calls, small_plan,
)

# Line 111 rings 112 behind the deed at place 7; 112 is lifted at 8.
RING = calls("111", "112")
TALK = [*RING, ("lift", "112")]
# Of the small plan: no deed of these can be done where all rest.
REFUSED = [("hang", "111"), ("lift", "x"), ("stick", "", 3), ("gap", "112"), ("pulse", "211"), ("mend", "9", 0)]
# One seeker, so that whoever comes second waits.
NARROW = Plan(2, ["11", "12", "13", "14"], 1, [])


class RowCase(HallCase):
    ask = None

    def told(self, deeds, rows, plan=None):
        """Fails unless these rows are told of the deeds, each time, as own lists, and the deeds stay."""
        plan = plan or small_plan()
        ahead = copy.deepcopy(deeds)
        first, second = self.ask(plan, deeds), self.ask(plan, deeds)
        self.assertEqual(first, rows)
        self.assertEqual(second, rows)
        self.assertIsNot(first, second)
        self.assertIs(type(first), list)
        for row in first:
            self.assertIs(type(row), tuple)
        first.append("mine")
        self.assertEqual(self.ask(plan, deeds), rows)
        self.assertEqual(deeds, ahead)


class Calls(RowCase):
    ask = staticmethod(calls_of)

    def test_no_deed(self):
        self.told([], [])

    def test_no_tone(self):
        self.told([*at_seekers("stick", 3), ("lift", "111"), ("hang", "111"), ("lift", "x")], [])
        self.told(REFUSED, [])

    def test_over_without_figures(self):
        self.told([("lift", "111"), *[("pulse", "111")] * 11],
                  [("111", 0, 0, "", None, None, None, 11, "over")])
        self.told([("lift", "111"), *[("pulse", "111")] * 10],
                  [("111", 0, 0, "", None, None, None, None, "on")])

    def test_over_with_figures(self):
        self.told([*calls("111", "1"), *[("pulse", "111")] * 11],
                  [("111", 0, 0, "1", None, None, None, 13, "over")])
        self.told([*calls("111", "11"), *[("pulse", "111")] * 11],
                  [("111", 0, 0, "11", None, None, None, 15, "over")])

    def test_none(self):
        self.told(calls("111", "9"), [("111", 0, 0, "9", None, None, None, 10, "none")])
        self.told(calls("111", "119"), [("111", 0, 0, "119", None, None, None, 14, "none")])

    def test_busy_by_a_group(self):
        self.told(calls("111", "3"), [("111", 0, 0, "3", None, None, None, 4, "busy")])
        self.told([("stick", "2", 0), *calls("111", "2")], [("111", 0, 1, "2", None, None, None, 4, "busy")])
        self.told([*calls("112", "2"), *calls("111", "2")],
                  [("112", 0, 0, "2", None, None, None, None, "on"), ("111", 1, 4, "2", None, None, None, 7, "busy")])

    def test_busy_by_a_group_of_a_later_figure(self):
        plan = Plan(4, ["1234", "1235"], 2, [("1", 1), ("12", 0)])
        self.told(calls("1234", "12"), [("1234", 0, 0, "12", None, None, None, 5, "busy")], plan)

    def test_busy_by_a_line(self):
        self.told(calls("111", "111"), [("111", 0, 0, "111", None, None, None, 6, "busy")])
        self.told([("lift", "112"), *calls("111", "112")],
                  [("112", 0, 0, "", None, None, None, None, "on"),
                   ("111", 1, 1, "112", None, None, None, 8, "busy")])

    def test_a_told_line_that_hangs_up_ends_no_call_once_more(self):
        for figures in ("9", "3", "111"):
            deeds = calls("111", figures)
            rows = calls_of(small_plan(), deeds)
            self.told([*deeds, ("hang", "111")], rows)
            self.told([*deeds, ("hang", "111"), ("lift", "111")],
                      [*rows, ("111", 1, len(deeds) + 1, "", None, None, None, None, "on")])

    def test_hung_while_it_dials(self):
        self.told([("lift", "111"), ("hang", "111")], [("111", 0, 0, "", None, None, None, 1, "hung")])
        self.told([("lift", "111"), ("pulse", "111"), ("hang", "111")],
                  [("111", 0, 0, "", None, None, None, 2, "hung")])
        self.told([*calls("111", "1"), ("hang", "111")], [("111", 0, 0, "1", None, None, None, 3, "hung")])
        self.told([*calls("111", "11"), ("pulse", "111"), ("hang", "111")],
                  [("111", 0, 0, "11", None, None, None, 6, "hung")])

    def test_hung_while_it_rings(self):
        self.told([*RING, ("hang", "111")], [("111", 0, 0, "112", "112", 7, None, 8, "hung")])
        self.told([*RING, ("hang", "111"), ("lift", "112")],
                  [("111", 0, 0, "112", "112", 7, None, 8, "hung"),
                   ("112", 1, 9, "", None, None, None, None, "on")])

    def test_hung_while_it_talks(self):
        # The called line waits anew, and has its tone in the same answer.
        self.told([*TALK, ("hang", "111")],
                  [("111", 0, 0, "112", "112", 7, 8, 9, "hung"), ("112", 1, 9, "", None, None, None, None, "on")])

    def test_left(self):
        # The caller waits anew, and has its tone in the same answer.
        self.told([*TALK, ("hang", "112")],
                  [("111", 0, 0, "112", "112", 7, 8, 9, "left"), ("111", 1, 9, "", None, None, None, None, "on")])
        self.told([*TALK, ("hang", "112"), ("hang", "111")],
                  [("111", 0, 0, "112", "112", 7, 8, 9, "left"), ("111", 1, 9, "", None, None, None, 10, "hung")])

    def test_left_with_no_seeker_free(self):
        self.told([*TALK, *at_seekers("stick", 3), ("hang", "112"), ("hang", "111")],
                  [("111", 0, 0, "112", "112", 7, 8, 12, "left")])
        self.told([*TALK, *at_seekers("stick", 3), ("hang", "112"), ("mend", "", 1)],
                  [("111", 0, 0, "112", "112", 7, 8, 12, "left"), ("111", 1, 13, "", None, None, None, None, "on")])

    def test_one_that_goes_on(self):
        self.told([("lift", "111")], [("111", 0, 0, "", None, None, None, None, "on")])
        self.told(calls("111", "1"), [("111", 0, 0, "1", None, None, None, None, "on")])
        self.told(calls("111", "11"), [("111", 0, 0, "11", None, None, None, None, "on")])
        self.told(RING, [("111", 0, 0, "112", "112", 7, None, None, "on")])
        self.told(TALK, [("111", 0, 0, "112", "112", 7, 8, None, "on")])

    def test_of_each_scene(self):
        hows = {name: calls_of(small_plan(), deeds) for name, (way, deeds) in SCENES.items()}
        for name in ("rests", "waits"):
            self.assertEqual(hows[name], [])
        for name in ("dials", "dials, a pulse", "dials, a switch", "dials, a figure more", "rings", "talks, calling"):
            self.assertEqual([(row[0], row[-1]) for row in hows[name]], [("111", "on")])
        for name in ("rung", "talks, called"):
            self.assertEqual([(row[0], row[4], row[-1]) for row in hows[name]], [("112", "111", "on")])
        ends = ["over", "none", "none", "busy", "busy"]
        self.assertEqual([rows[0][-1] for name, rows in hows.items() if name.startswith("told")], ends)

    def test_two_calls_of_one_line(self):
        self.told([*RING, ("hang", "111"), *calls("111", "2"), ("hang", "111")],
                  [("111", 0, 0, "112", "112", 7, None, 8, "hung"), ("111", 1, 9, "2", None, None, None, 13, "hung")])
        self.told([("lift", "111"), ("hang", "111")] * 4,
                  [("111", k % 3, 2 * k, "", None, None, None, 2 * k + 1, "hung") for k in range(4)])

    def test_a_line_that_calls_and_is_called(self):
        self.told([*TALK, ("hang", "111"), *dialled("112", "111"), ("lift", "111"), ("hang", "111")],
                  [("111", 0, 0, "112", "112", 7, 8, 9, "hung"), ("112", 1, 9, "111", "111", 15, 16, 17, "left"),
                   ("112", 2, 17, "", None, None, None, None, "on")])

    def test_a_tone_at_a_deed_of_another_line(self):
        self.told([("lift", "11"), ("lift", "12"), ("hang", "11")],
                  [("11", 0, 0, "", None, None, None, 2, "hung"), ("12", 0, 2, "", None, None, None, None, "on")],
                  NARROW)
        self.told([*calls("11", "1"), ("lift", "12"), *[("pulse", "11")] * 11],
                  [("11", 0, 0, "1", None, None, None, 14, "over"), ("12", 0, 14, "", None, None, None, None, "on")],
                  NARROW)
        self.told([("lift", "12"), ("lift", "11"), *dialled("12", "12")],
                  [("12", 0, 0, "12", None, None, None, 6, "busy"), ("11", 0, 6, "", None, None, None, None, "on")],
                  NARROW)
        self.told([("lift", "12"), ("lift", "11"), *dialled("12", "21")],
                  [("12", 0, 0, "21", None, None, None, 6, "none"), ("11", 0, 6, "", None, None, None, None, "on")],
                  NARROW)

    def test_a_tone_by_a_mend(self):
        self.told([("stick", "", 0), ("lift", "11"), ("lift", "12"), ("mend", "", 0)],
                  [("11", 0, 3, "", None, None, None, None, "on")], NARROW)

    def test_the_order_of_the_tones(self):
        deeds = [("lift", "13"), ("lift", "12"), ("lift", "11"), ("hang", "13"), ("lift", "13"), ("hang", "12"),
                 ("hang", "11")]
        self.told(deeds,
                  [("13", 0, 0, "", None, None, None, 3, "hung"), ("12", 0, 3, "", None, None, None, 5, "hung"),
                   ("11", 0, 5, "", None, None, None, 6, "hung"), ("13", 0, 6, "", None, None, None, None, "on")],
                  NARROW)
        # The second one ends first.
        self.told([("lift", "211"), ("lift", "111"), ("hang", "111"), ("hang", "211")],
                  [("211", 0, 0, "", None, None, None, 3, "hung"), ("111", 1, 1, "", None, None, None, 2, "hung")])

    def test_places_of_refused_deeds_count(self):
        deeds = [*REFUSED, ("lift", "111"), ("lift", "111"), ("gap", "111"), ("pulse", "111"), ("pulse", "112"),
                 ("gap", "111"), ("gap", "111"), ("hang", "112"), ("hang", "111"), ("hang", "111")]
        self.told(deeds, [("111", 0, 6, "1", None, None, None, 14, "hung")])
        spread = [one for deed in [*TALK, ("hang", "112")] for one in (("lift", "x"), deed)]
        self.told(spread, [("111", 0, 1, "112", "112", 15, 17, 19, "left"),
                           ("111", 1, 19, "", None, None, None, None, "on")])

    def test_deeds_at_switches_are_done(self):
        self.told([("stick", "", 0), ("stick", "1", 0), *calls("111", "1")],
                  [("111", 1, 2, "1", None, None, None, None, "on")])
        self.told([("stick", "1", 1), ("stick", "1", 0), *calls("111", "1")],
                  [("111", 0, 2, "1", None, None, None, 4, "busy")])

    def test_whole_numbers(self):
        for row in calls_of(small_plan(), [*TALK, ("hang", "112")]):
            for part in row:
                if part is not None and not isinstance(part, str):
                    self.whole(part)

    def test_the_plan_stays(self):
        plan = small_plan()
        calls_of(plan, TALK)
        waits_of(plan, TALK)
        self.assertEqual((plan.long, plan.lines, plan.seekers, plan.groups),
                         (3, small_plan().lines, 3, small_plan().groups))


class Waits(RowCase):
    ask = staticmethod(waits_of)

    def test_no_deed(self):
        self.told([], [])
        self.told(REFUSED, [])

    def test_a_tone_at_the_same_place(self):
        self.told([("lift", "111")], [("111", 0, 0, "tone")])
        self.told([("stick", "1", 0), ("lift", "x"), ("lift", "112"), ("lift", "111")],
                  [("112", 2, 2, "tone"), ("111", 3, 3, "tone")])

    def test_a_tone_later(self):
        self.told([("lift", "11"), ("lift", "12"), ("pulse", "11"), ("hang", "11")],
                  [("11", 0, 0, "tone"), ("12", 1, 3, "tone")], NARROW)
        self.told([("stick", "", 0), ("lift", "11"), ("lift", "x"), ("mend", "", 0)], [("11", 1, 3, "tone")], NARROW)

    def test_hung_up_while_it_waits(self):
        self.told([("lift", "11"), ("lift", "12"), ("hang", "12")],
                  [("11", 0, 0, "tone"), ("12", 1, 2, "hung")], NARROW)
        self.told([("lift", "11"), ("lift", "12"), ("hang", "12"), ("lift", "12")],
                  [("11", 0, 0, "tone"), ("12", 1, 2, "hung"), ("12", 3, None, "on")], NARROW)

    def test_hung_up_behind_its_tone(self):
        self.told([("lift", "11"), ("hang", "11")], [("11", 0, 0, "tone")], NARROW)
        self.told([("lift", "11"), ("hang", "11"), ("lift", "11")], [("11", 0, 0, "tone"), ("11", 2, 2, "tone")],
                  NARROW)

    def test_one_that_goes_on(self):
        self.told([("lift", "11"), ("lift", "12"), ("lift", "14"), ("lift", "13")],
                  [("11", 0, 0, "tone"), ("12", 1, None, "on"), ("14", 2, None, "on"), ("13", 3, None, "on")], NARROW)

    def test_a_lift_that_answers_a_call_is_no_wait(self):
        self.told(TALK, [("111", 0, 0, "tone")])

    def test_begun_by_the_other_end_of_a_talk(self):
        for hangs, waits in (("111", "112"), ("112", "111")):
            self.told([*TALK, ("hang", hangs)], [("111", 0, 0, "tone"), (waits, 9, 9, "tone")])
            stuck = [*TALK, *at_seekers("stick", 3), ("hang", hangs)]
            self.told(stuck, [("111", 0, 0, "tone"), (waits, 12, None, "on")])
            self.told([*stuck, ("mend", "", 2)], [("111", 0, 0, "tone"), (waits, 12, 13, "tone")])
            self.told([*stuck, ("hang", waits)], [("111", 0, 0, "tone"), (waits, 12, 13, "hung")])

    def test_a_tone_for_another_by_the_seeker_of_a_talk(self):
        # 13 waited ahead of the one that is left, which waits on.
        deeds = [*calls("11", "12"), ("lift", "12"), ("lift", "13"), ("hang", "12")]
        self.told(deeds, [("11", 0, 0, "tone"), ("13", 7, 8, "tone"), ("11", 8, None, "on")], NARROW)

    def test_a_later_one_ends_first(self):
        self.told([("lift", "11"), ("lift", "12"), ("lift", "13"), ("hang", "13"), ("hang", "11")],
                  [("11", 0, 0, "tone"), ("12", 1, 4, "tone"), ("13", 2, 3, "hung")], NARROW)
        self.told([("lift", "11"), ("lift", "12"), ("lift", "13"), ("hang", "13"), ("lift", "13"), ("lift", "14"),
                   ("hang", "13")],
                  [("11", 0, 0, "tone"), ("12", 1, None, "on"), ("13", 2, 3, "hung"), ("13", 4, 6, "hung"),
                   ("14", 5, None, "on")], NARROW)

    def test_who_rings_and_hangs_up_lets_nobody_wait(self):
        self.told([*RING, ("hang", "111")], [("111", 0, 0, "tone")])

    def test_places_of_refused_deeds_count(self):
        self.told([*REFUSED, ("lift", "111"), ("lift", "111"), ("hang", "x"), ("lift", "112")],
                  [("111", 6, 6, "tone"), ("112", 9, 9, "tone")])

    def test_whole_numbers(self):
        for row in waits_of(NARROW, [("lift", "11"), ("lift", "12"), ("hang", "12")]):
            self.whole(row[1])
            self.whole(row[2])


class AnyRows(HallCase):
    def by_book(self, plan, deeds):
        """The calls and the waits of a row of deeds, read off the book of another hall."""
        book, rows, waits = Book(plan), [], []
        entries = []
        for place, deed in enumerate(deeds):
            if book.refusal(deed) is not None:
                continue
            waiting = list(book.waiting)
            book.do(deed)
            self.note_calls(book, entries, rows, place)
            toned = [row[0] for row in rows if row[2] == place]
            self.note_waits(book, waits, waiting, toned, place)
        return [tuple(row) for row in rows], [tuple(wait) for wait in waits]

    def note_calls(self, book, entries, rows, place):
        for entry, row in zip(entries, rows):
            if row[8] == "on" and all(call is not entry for call in book.calls):
                row[3], row[7] = entry["figures"], place
                row[8] = "hung" if book.way(row[0]) == "rests" else "left"
                if row[0] in book.told:
                    paper = book.told[row[0]][1]
                    row[8] = paper[0] if paper[0] in ("none", "over") else "busy"
        for call in book.calls:
            if all(call is not entry for entry in entries):
                entries.append(call)
                rows.append([call["caller"], call["held"][0][1], place, "", None, None, None, None, "on"])
        for entry, row in zip(entries, rows):
            if row[8] == "on":
                row[3], row[4] = entry["figures"], entry["called"]
                if entry["called"] and row[5] is None:
                    row[5] = place
                if entry["talk"] and row[6] is None:
                    row[6] = place

    def note_waits(self, book, waits, waiting, toned, place):
        for wait in waits:
            if wait[3] == "on" and wait[0] not in book.waiting:
                wait[2], wait[3] = place, "tone" if wait[0] in toned else "hung"
        for line in book.waiting:
            if line not in waiting:
                waits.append([line, place, None, "on"])
        for line in toned:
            if line not in waiting:
                waits.append([line, place, place, "tone"])

    def test_as_the_book_tells(self):
        hows, ends = set(), set()
        for plan, deeds in any_rows(80, 250, 2000):
            rows, waits = self.by_book(plan, deeds)
            self.assertEqual(calls_of(plan, deeds), rows)
            self.assertEqual(waits_of(plan, deeds), waits)
            hows.update(row[8] for row in rows)
            ends.update(wait[3] for wait in waits)
        # Else the rows would be poor ones.
        self.assertEqual(hows, {"over", "none", "busy", "hung", "left", "on"})
        self.assertEqual(ends, {"tone", "hung", "on"})

    def test_who_began_to_wait_first_got_its_tone_first(self):
        for plan, deeds in any_rows(60, 250, 3000):
            toned = [wait for wait in waits_of(plan, deeds) if wait[3] == "tone"]
            self.assertEqual([wait[2] for wait in toned], sorted(wait[2] for wait in toned))
            # Each tone begins a call and ends a wait.
            self.assertEqual([(wait[0], wait[2]) for wait in toned],
                             [(row[0], row[2]) for row in calls_of(plan, deeds)])

    def test_two_thousand_deeds(self):
        plan = Plan(4, [str(k) for k in range(1100, 1160)], 20, [("1", 10), ("11", 8)])
        deeds = any_deeds(random.Random(11), plan, 2000)
        rows, waits = self.by_book(plan, deeds)
        self.assertEqual(calls_of(plan, deeds), rows)
        self.assertEqual(waits_of(plan, deeds), waits)
        self.assertGreater(len(rows), 100)
        self.assertGreater(len({wait[3] for wait in waits}), 1)

    def test_refused_deeds_left_out_tell_the_same_but_for_the_places(self):
        for plan, deeds in any_rows(30, 150, 4000):
            hall = Hall(plan)
            kept = [place for place, deed in enumerate(deeds) if isinstance(answer_or_kind(hall, deed), list)]
            placed = {at: place for at, place in enumerate(kept)}
            placed[None] = None
            alone = [deeds[place] for place in kept]
            self.assertEqual(alone, hall.deeds())
            self.assertEqual(calls_of(plan, deeds),
                             [(*row[:2], placed[row[2]], *row[3:5], *[placed[at] for at in row[5:8]], row[8])
                              for row in calls_of(plan, alone)])
            self.assertEqual(waits_of(plan, deeds),
                             [(row[0], placed[row[1]], placed[row[2]], row[3]) for row in waits_of(plan, alone)])


if __name__ == "__main__":
    unittest.main()
