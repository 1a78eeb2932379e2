import itertools
import unittest

from stephall.errors import BadPlan, NoText
from stephall.plans import Plan, plan_text, read_plan
from tests.helper import FAR, OTHER_SIGNS, HallCase


def parts(plan):
    return (plan.long, plan.lines, plan.seekers, plan.groups)


def numbers(long, many):
    return [str(k).zfill(long) for k in range(many)]


class PlanBounds(HallCase):
    def bad(self, long, lines, seekers, groups):
        self.refused(BadPlan, Plan, long, lines, seekers, groups)

    def test_long(self):
        for long in (2, 3, 4):
            plan = Plan(long, ["1" * long], 1, [])
            self.assertEqual(plan.long, long)
            self.whole(plan.long)
        for long in (-2, -1, 0, 1, 5, 6, 60):
            self.bad(long, ["1" * max(long, 0)], 1, [])
        for long in FAR:
            self.bad(long, ["12"], 1, [])

    def test_many_lines(self):
        for long in (2, 3, 4):
            for many in (1, 2, 59, 60):
                self.assertEqual(Plan(long, numbers(long, many), 1, []).lines, tuple(numbers(long, many)))
            for many in (0, 61, 62, 99):
                self.bad(long, numbers(long, many), 1, [])
        self.bad(4, numbers(4, 2000), 1, [])

    def test_how_long_a_number_is(self):
        for long in (2, 3, 4):
            good = numbers(long, 3)
            for size in range(6):
                if size != long:
                    self.bad(long, ["1" * size], 1, [])
                    self.bad(long, good + ["9" * size], 1, [])
                    self.bad(long, ["9" * size] + good, 1, [])
            self.bad(long, ["9" * 20000], 1, [])

    def test_signs_of_a_number(self):
        for sign in OTHER_SIGNS:
            for number in (sign + "12", "1" + sign + "2", "12" + sign):
                self.bad(3, [number], 1, [])
                self.bad(3, ["123", number, "124"], 1, [])

    def test_a_number_told_twice(self):
        self.bad(2, ["12", "12"], 1, [])
        self.bad(3, ["121", "122", "123", "121"], 1, [])
        self.bad(4, numbers(4, 59) + ["0000"], 1, [])

    def test_seekers(self):
        for seekers in (1, 2, 59, 60):
            plan = Plan(2, ["12"], seekers, [])
            self.assertEqual(plan.seekers, seekers)
            self.whole(plan.seekers)
        for seekers in (-60, -1, 0, 61, 62, *FAR):
            self.bad(2, ["12"], seekers, [])

    def test_many_groups(self):
        prefixes = [str(k) for k in range(10)] + [str(k).zfill(2) for k in range(100)]
        for many in (0, 1, 39, 40):
            groups = [(prefix, 1) for prefix in prefixes[:many]]
            self.assertEqual(len(Plan(4, ["1234"], 1, groups).groups), many)
        for many in (41, 42, 110):
            self.bad(4, ["1234"], 1, [(prefix, 1) for prefix in prefixes[:many]])
        self.bad(4, ["1234"], 1, [("1", 1)] * 2000)

    def test_how_long_a_prefix_is(self):
        for long in (2, 3, 4):
            for size in range(7):
                groups = [("1" * size, 1)]
                if 1 <= size <= long - 2:
                    self.assertEqual(Plan(long, ["1" * long], 1, groups).groups, tuple(groups))
                else:
                    self.bad(long, ["1" * long], 1, groups)
        self.bad(4, ["1234"], 1, [("1" * 20000, 1)])
        self.bad(4, ["1234"], 1, [("1", 1), ("12", 1), ("123", 1)])

    def test_no_group_where_long_is_2(self):
        self.assertEqual(Plan(2, ["12"], 1, []).groups, ())
        for prefix in ("", "1", "12", "0"):
            for many in (0, 1, 10):
                self.bad(2, ["12"], 1, [(prefix, many)])

    def test_signs_of_a_prefix(self):
        for sign in OTHER_SIGNS:
            self.bad(3, ["123"], 1, [(sign, 1)])
            self.bad(4, ["1234"], 1, [("1" + sign, 1)])
            self.bad(4, ["1234"], 1, [("2", 1), (sign + "1", 1)])

    def test_a_prefix_told_twice(self):
        self.bad(3, ["123"], 1, [("1", 1), ("1", 1)])
        self.bad(4, ["1234"], 1, [("1", 1), ("12", 0), ("3", 2), ("12", 10)])

    def test_many_switches(self):
        for many in (0, 1, 9, 10):
            plan = Plan(3, ["123"], 1, [("1", many)])
            self.assertEqual(plan.groups, (("1", many),))
            self.whole(plan.groups[0][1])
        for many in (-10, -1, 11, 12, *FAR):
            self.bad(3, ["123"], 1, [("1", many)])
            self.bad(3, ["123"], 1, [("0", 1), ("1", many)])

    def test_several_parts_wrong_at_once(self):
        self.bad(5, [], 0, [("x", 11)])
        self.bad(FAR[1], ["a"], FAR[0], [("", FAR[0])])

    def test_truths_are_no_whole_numbers(self):
        for truth in (True, False):
            self.bad(truth, ["1"], 1, [])
            self.bad(3, ["123"], truth, [])
            self.bad(3, ["123"], 1, [("1", truth)])


class PlanTells(HallCase):
    def test_everything_rising_whatever_the_order(self):
        lines = ["0010", "0100", "1000", "9999"]
        groups = [("0", 3), ("01", 0), ("1", 10), ("10", 2)]
        for some in itertools.permutations(lines):
            self.assertEqual(parts(Plan(4, list(some), 5, groups)), (4, tuple(lines), 5, tuple(groups)))
        for some in itertools.permutations(groups):
            self.assertEqual(parts(Plan(4, lines, 5, list(some))), (4, tuple(lines), 5, tuple(groups)))

    def test_prefixes_rise_as_texts(self):
        self.assertEqual(Plan(4, ["1234"], 1, [("9", 0), ("2", 9), ("10", 5)]).groups, (("10", 5), ("2", 9), ("9", 0)))

    def test_kinds(self):
        plan = Plan(3, ["321", "123"], 2, [("3", 1), ("1", 4)])
        self.assertIs(type(plan.lines), tuple)
        self.assertIs(type(plan.groups), tuple)
        self.assertEqual([type(number) for number in plan.lines], [str, str])
        self.assertEqual([type(pair) for pair in plan.groups], [tuple, tuple])

    def test_what_is_handed_in_stays(self):
        lines = ["321", "123"]
        groups = [("3", 1), ("1", 4)]
        Plan(3, lines, 2, groups)
        self.assertEqual(lines, ["321", "123"])
        self.assertEqual(groups, [("3", 1), ("1", 4)])
        self.refused(BadPlan, Plan, 3, lines, 0, groups)
        self.assertEqual(lines, ["321", "123"])
        self.assertEqual(groups, [("3", 1), ("1", 4)])

    def test_what_is_changed_later_changes_nothing(self):
        lines = ["321", "123"]
        groups = [("3", 1), ("1", 4)]
        plan = Plan(3, lines, 2, groups)
        lines.append("000")
        lines[0] = "999"
        groups.clear()
        self.assertEqual(parts(plan), (3, ("123", "321"), 2, (("1", 4), ("3", 1))))


class Written(HallCase):
    def test_word_for_word(self):
        plan = Plan(4, ["2000", "0999", "1234"], 12, [("9", 10), ("10", 0), ("1", 3)])
        text = (
            "long 4\nseekers 12\nline 0999\nline 1234\nline 2000\ngroup 1 3\ngroup 10 0\ngroup 9 10"
        )
        self.assertEqual(plan_text(plan), text)
        self.assertEqual(plan_text(plan), text)

    def test_without_groups(self):
        self.assertEqual(plan_text(Plan(2, ["07"], 1, [])), "long 2\nseekers 1\nline 07")

    def test_a_plan_is_not_changed_by_writing_it(self):
        plan = Plan(3, ["321", "123"], 2, [("3", 1)])
        plan_text(plan)
        self.assertEqual(parts(plan), (3, ("123", "321"), 2, (("3", 1),)))


class Read(HallCase):
    def test_leads_back(self):
        for long in (2, 3, 4):
            for many in (1, 2, 60):
                for seekers in (1, 9, 10, 60):
                    groups = [(str(k), k + 1) for k in range(10)] if long > 2 else []
                    plan = Plan(long, numbers(long, many), seekers, groups)
                    again = read_plan(plan_text(plan))
                    self.assertIs(type(again), Plan)
                    self.assertEqual(parts(again), parts(plan))
                    self.assertEqual(plan_text(again), plan_text(plan))

    def test_the_greatest_plan(self):
        groups = [(str(k).zfill(2), k % 11) for k in range(40)]
        plan = Plan(4, numbers(4, 60), 60, groups)
        self.assertEqual(parts(read_plan(plan_text(plan))), parts(plan))

    def test_rows_in_any_order(self):
        rows = ["long 4", "seekers 7", "line 1234", "line 0123", "group 12 10", "group 1 0"]
        for some in itertools.permutations(rows):
            plan = read_plan("\n".join(some))
            self.assertEqual(parts(plan), (4, ("0123", "1234"), 7, (("1", 0), ("12", 10))))

    def test_numbers_read_are_whole_numbers(self):
        plan = read_plan("long 3\nseekers 1\nline 123\ngroup 1 0")
        for number in (plan.long, plan.seekers, plan.groups[0][1]):
            self.whole(number)

    def test_the_same_text_is_read_so_each_time(self):
        text = "long 3\nseekers 1\nline 123\ngroup 1 0"
        self.assertEqual(parts(read_plan(text)), parts(read_plan(text)))


GOOD = ("long 3", "seekers 2", "line 123", "group 1 4")


class NotWritten(HallCase):
    def no_text(self, text):
        self.refused(NoText, read_plan, text)

    def no_row(self, row, instead):
        """NoText with this row instead of that of the good ones, and with it besides the good ones at any place."""
        self.assertIn(instead, GOOD)
        self.no_text("\n".join(row if good == instead else good for good in GOOD))
        for place in range(len(GOOD) + 1):
            self.no_text("\n".join([*GOOD[:place], row, *GOOD[place:]]))

    def test_the_good_rows_are_good(self):
        self.assertEqual(parts(read_plan("\n".join(GOOD))), (3, ("123",), 2, (("1", 4),)))

    def test_text_without_signs_or_words(self):
        for text in ("", " ", "\n", "\n\n", " \n ", "x", "long", "-"):
            self.no_text(text)

    def test_another_word(self):
        for row, good in (("lang 3", "long 3"), ("Long 3", "long 3"), ("long: 3", "long 3"), ("seeker 2", "seekers 2"),
                          ("SEEKERS 2", "seekers 2"), ("lines 123", "line 123"), ("lin 123", "line 123"),
                          ("groups 1 4", "group 1 4"), ("grou 1 4", "group 1 4"), ("123", "line 123"), ("# x", "line 123")):
            self.no_row(row, good)

    def test_too_many_or_too_few_words(self):
        for row, good in (("long", "long 3"), ("long 3 3", "long 3"), ("seekers", "seekers 2"), ("seekers 2 2", "seekers 2"),
                          ("line", "line 123"), ("line 123 124", "line 123"), ("group", "group 1 4"), ("group 1", "group 1 4"),
                          ("group 4", "group 1 4"), ("group 1 4 4", "group 1 4"), ("group 1 2 3 4", "group 1 4")):
            self.no_row(row, good)

    def test_blanks(self):
        for good in GOOD:
            for row in (" " + good, good + " ", "  " + good, good + "  ", good.replace(" ", "  "),
                        good.replace(" ", "  ", 1), good.replace(" ", "   "), good.replace(" ", ""),
                        good.replace(" ", "\n")):
                self.no_row(row, good)
        for row, good in (("group 1  4", "group 1 4"), ("group  4", "group 1 4"), ("group 1 ", "group 1 4"),
                          ("line ", "line 123"), ("long ", "long 3"), ("seekers ", "seekers 2")):
            self.no_row(row, good)

    def test_a_row_without_signs(self):
        self.no_row("", "line 123")
        self.no_row(" ", "line 123")

    def test_a_line_end_at_the_end_or_the_beginning(self):
        text = "\n".join(GOOD)
        for other in (text + "\n", "\n" + text, text + "\n\n", "\n" + text + "\n", text + "\n "):
            self.no_text(other)

    def test_long_or_seekers_missing(self):
        self.no_text("seekers 2\nline 123\ngroup 1 4")
        self.no_text("long 3\nline 123\ngroup 1 4")
        self.no_text("line 123\ngroup 1 4")
        self.no_text("line 123")
        self.no_text("long 3")
        self.no_text("seekers 2")

    def test_long_or_seekers_told_twice(self):
        for row in ("long 3", "long 2", "seekers 2", "seekers 1", "long 99", "seekers 0"):
            for place in range(len(GOOD) + 1):
                self.no_text("\n".join([*GOOD[:place], row, *GOOD[place:]]))
        self.no_text("long 3\nlong 3\nline 123")
        self.no_text("seekers 2\nseekers 2\nline 123")

    def test_numbers(self):
        wrong = ["", "100", "010", "003", "00", "01", "03", "09", "-1", "+3", "3.", "1_0", "x", "3x", "x3", "III",
                 "1" * 50, "0" * 60, "--", "0x3"]
        wrong += [sign for sign in OTHER_SIGNS if sign not in " \n"]
        for number in wrong:
            self.no_row(f"long {number}", "long 3")
            self.no_row(f"seekers {number}", "seekers 2")
            self.no_row(f"group 1 {number}", "group 1 4")

    def test_wrong_both_ways(self):
        for text in ("long 9\nseekers 2\nline 123\nlien 124", "long 3\nseekers 0\nline 123\n", "line 1\nline 1\nlong 3",
                     "group x 99\nlong 3\nseekers 2\nline 123\ngroup 1 100", "long 3\nseekers 99\n\nline 123",
                     "long 3\nseekers 2\nline x\nline", "long 99\nlong 99\nseekers 99"):
            self.no_text(text)


class ReadButNoPlan(HallCase):
    def bad(self, *rows):
        for some in (rows, rows[::-1]):
            self.refused(BadPlan, read_plan, "\n".join(some))

    def test_long(self):
        for long in (0, 1, 2, 4, 5, 9, 10, 99):
            self.bad(f"long {long}", "seekers 2", "line 123", "group 1 4")

    def test_seekers(self):
        for seekers in (0, 61, 99):
            self.bad("long 3", f"seekers {seekers}", "line 123", "group 1 4")

    def test_lines(self):
        self.bad("long 3", "seekers 2")
        self.bad("long 3", "seekers 2", "group 1 4")
        self.bad("long 3", "seekers 2", "line 123", "line 123")
        self.bad("long 3", "seekers 2", *[f"line {number}" for number in numbers(3, 61)])
        self.bad("long 2", "seekers 1", *["line 12"] * 1900)
        for word in ("1", "12", "1234", "abc", "12x", "-12", "line", "long", "~", "1" * 10000):
            self.bad("long 3", "seekers 2", f"line {word}")
            self.bad("long 3", "seekers 2", "line 123", f"line {word}")

    def test_groups(self):
        self.bad("long 3", "seekers 2", "line 123", "group 1 4", "group 1 4")
        self.bad("long 3", "seekers 2", "line 123", "group 1 4", "group 1 5")
        self.bad("long 4", "seekers 2", "line 1234", *[f"group {k} 1" for k in range(10, 51)])
        self.bad("long 2", "seekers 2", "line 12", "group 1 0")
        for many in (11, 12, 99):
            self.bad("long 3", "seekers 2", "line 123", f"group 1 {many}")
        for word in ("12", "123", "x", "-", "group", "1" * 10000):
            self.bad("long 3", "seekers 2", "line 123", f"group {word} 4")

    def test_any_other_sign_in_a_word(self):
        for sign in OTHER_SIGNS:
            if sign not in " \n":
                self.bad("long 3", "seekers 2", f"line 12{sign}", "group 1 4")
                self.bad("long 3", "seekers 2", "line 123", f"group {sign} 4")


if __name__ == "__main__":
    unittest.main()
