"""The promise of the whole, for many plans and many rows of deeds."""

import random
import unittest

from stephall import errors
from stephall.halls import Hall
from tests.helper import Book, HallCase, any_deeds, any_plan, asked, of_line


class AnyDeeds(HallCase):
    def each(self, rows, many):
        """Each deed of many rows with its plan, a hall ahead of it and a book, as long as the hall is the book's."""
        for seed in range(rows):
            chance = random.Random(seed)
            plan = any_plan(chance)
            hall, book = Hall(plan), Book(plan)
            for deed in any_deeds(chance, plan, many):
                yield plan, hall, book, deed

    def test_a_hall_is_as_its_book(self):
        ways, comes, kinds = set(), set(), set()
        for plan, hall, book, deed in self.each(150, 250):
            refusal = book.refusal(deed)
            kinds.add(refusal)
            if refusal is not None:
                self.refused(refusal, hall.do, deed)
            else:
                come = hall.do(deed)
                self.assertEqual(come, book.do(deed), (plan.lines, hall.deeds()))
                comes.update(one[0] for one in come)
            self.assertEqual(asked(hall, plan), book.asked(), hall.deeds())
            ways.update(hall.way(line) for line in plan.lines)
        # Else the rows would be poor ones.
        self.assertEqual(ways, {"rests", "waits", "dials", "rings", "rung", "talks", "told"})
        words = "waits tone talks over none takes busy figure rings rests quiet".split()
        self.assertEqual(comes, set(words))
        self.assertEqual(kinds, {None, errors.NoLine, errors.NoSwitch, errors.NotSo})

    def walked(self, rows, many):
        """Each deed that is done with its hall behind it, all that was asked ahead of it, and what came of it."""
        for plan, hall, book, deed in self.each(rows, many):
            if book.refusal(deed) is None:
                ahead = asked(hall, plan)
                book.do(deed)
                yield plan, hall, ahead, hall.do(deed)

    def test_no_line_and_no_switch_is_in_two_calls(self):
        for plan, hall, ahead, come in self.walked(40, 200):
            held = [pair for line in plan.lines for pair in hall.holds(line)]
            self.assertEqual(len(held), len(set(held)))
            for line in plan.lines:
                for where, k in hall.holds(line):
                    self.assertEqual(hall.paper(where)[k], line)
                self.assertEqual(bool(hall.holds(line)), hall.way(line) in ("dials", "rings") or
                                 hall.way(line) == "talks" and hall.figures(line) != "")
                other = hall.other(line)
                self.assertEqual(other is not None, hall.way(line) in ("rings", "rung", "talks"))
                if other is not None:
                    self.assertEqual(hall.other(other), line)
                    self.assertNotEqual(other, line)
            for where in ["", *[prefix for prefix, switches in plan.groups]]:
                named = [(where, k) for k, who in enumerate(hall.paper(where)) if who not in ("free", "stuck")]
                self.assertEqual(sorted(named), sorted(pair for pair in held if pair[0] == where))

    def test_who_rings_or_talks_is_led_to_the_line_that_was_dialled(self):
        for plan, hall, ahead, come in self.walked(40, 200):
            for one in come:
                if one[0] == "takes":
                    self.assertEqual(ahead["wheres"][one[2]][0].index("free"), one[3])
            for line in plan.lines:
                way, figures, holds, other, paper = of_line(hall, line)
                if way == "rings" or way == "talks" and figures:
                    self.assertEqual(other, figures)
                    self.assertEqual([where for where, k in holds], [figures[:k] for k in range(plan.long - 1)])

    def test_who_is_told_busy_is_told_with_a_paper(self):
        for plan, hall, ahead, come in self.walked(60, 200):
            for one in come:
                if one[0] == "busy":
                    kind, figures, paper = one[2]
                    self.assertEqual(hall.told_paper(one[1]), one[2])
                    if kind == "line":
                        self.assertEqual(paper, ahead["lines"][figures][0])
                        self.assertNotEqual(paper, "rests")
                    else:
                        self.assertEqual(paper, ahead["wheres"][figures][0])
                        self.assertNotIn("free", paper)

    def test_hung_up_by_either_end_all_is_free_at_once(self):
        for plan, hall, ahead, come in self.walked(40, 200):
            for one in come:
                if one[0] == "rests":
                    line, other = one[1], ahead["lines"][one[1]][3]
                    self.assertEqual(of_line(hall, line), ("rests", "", [], None, None))
                    tones = {tone[2] for tone in come if tone[0] == "tone"}
                    for end in [line] if other is None else [line, other]:
                        for where, k in ahead["lines"][end][2]:
                            if where or k not in tones:
                                self.assertIn(hall.paper(where)[k], ("free", "stuck"))

    def test_nobody_waits_while_a_seeker_is_free(self):
        for plan, hall, ahead, come in self.walked(60, 200):
            self.assertTrue(not hall.waiting() or "free" not in hall.paper(""))

    def test_who_waits_longest_gets_the_next_seeker(self):
        for plan, hall, ahead, come in self.walked(60, 200):
            waiting = ahead["rest"][0] + [one[1] for one in come if one[0] == "waits"]
            hung = [one[1] for one in come if one[0] == "rests"]
            waiting = [line for line in waiting if line not in hung]
            toned = [one[1] for one in come if one[0] == "tone"]
            self.assertEqual(toned + hall.waiting(), waiting)
            # A deed frees one seeker at most, and lets one line wait at most.
            self.assertLessEqual(len(toned), 1)


if __name__ == "__main__":
    unittest.main()
