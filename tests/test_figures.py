import unittest

from stephall.errors import NoFigure
from stephall.figures import dialled, figure_of, pulses_of
from tests.helper import FAR, FIGURES, OTHER_SIGNS, HallCase

PULSES = {"1": 1, "2": 2, "3": 3, "4": 4, "5": 5, "6": 6, "7": 7, "8": 8, "9": 9, "0": 10}


class FigureOf(HallCase):
    def test_each_count(self):
        self.assertEqual([figure_of(many) for many in range(1, 11)], list("1234567890"))

    def test_counts_outside(self):
        for many in (0, -1, -2, -9, -10, -11, 11, 12, 20, 100, *FAR):
            self.refused(NoFigure, figure_of, many)

    def test_truths_are_no_whole_numbers(self):
        for truth in (True, False):
            self.refused(NoFigure, figure_of, truth)


class PulsesOf(HallCase):
    def test_each_figure(self):
        for figure, many in PULSES.items():
            self.assertEqual(pulses_of(figure), many)
            self.whole(pulses_of(figure))

    def test_each_leads_back_to_the_other(self):
        for many in range(1, 11):
            self.assertEqual(pulses_of(figure_of(many)), many)
        for figure in FIGURES:
            self.assertEqual(figure_of(pulses_of(figure)), figure)

    def test_text_without_signs(self):
        self.refused(NoFigure, pulses_of, "")

    def test_two_figures_and_more(self):
        for first in FIGURES:
            for second in FIGURES:
                self.refused(NoFigure, pulses_of, first + second)
        for text in ("1234567890", "0123456789", "0" * 20000):
            self.refused(NoFigure, pulses_of, text)

    def test_other_signs(self):
        for sign in OTHER_SIGNS:
            self.refused(NoFigure, pulses_of, sign)

    def test_a_figure_beside_another_sign(self):
        for sign in OTHER_SIGNS:
            self.refused(NoFigure, pulses_of, sign + "1")
            self.refused(NoFigure, pulses_of, "1" + sign)


class Dialled(HallCase):
    def told(self, line, figures):
        """The same, written another way."""
        rows = [[("pulse", line)] * PULSES[figure] + [("gap", line)] for figure in figures]
        return sum(rows, [])

    def test_no_figure(self):
        self.assertEqual(dialled("12", ""), [])

    def test_one_figure(self):
        self.assertEqual(dialled("12", "1"), [("pulse", "12"), ("gap", "12")])
        self.assertEqual(dialled("7", "3"), [("pulse", "7"), ("pulse", "7"), ("pulse", "7"), ("gap", "7")])
        for figure in FIGURES:
            self.assertEqual(dialled("345", figure), self.told("345", figure))

    def test_nought_has_ten_pulses(self):
        self.assertEqual(dialled("12", "0"), [("pulse", "12")] * 10 + [("gap", "12")])

    def test_some_figures_in_their_order(self):
        two_and_one = [("pulse", "5"), ("pulse", "5"), ("gap", "5"), ("pulse", "5"), ("gap", "5")]
        self.assertEqual(dialled("5", "21"), two_and_one)
        self.assertEqual(dialled("5", "0110"), self.told("5", "0110"))

    def test_many_figures(self):
        figures = FIGURES * 150
        self.assertEqual(dialled("1234", figures), self.told("1234", figures))
        self.assertEqual(len(dialled("1234", "0" * 20000)), 220000)

    def test_any_text_is_a_line(self):
        for line in ("", "no line", "12\n34", "~"):
            self.assertEqual(dialled(line, "1"), [("pulse", line), ("gap", line)])

    def test_deeds_are_tuples_in_a_list(self):
        deeds = dialled("12", "20")
        self.assertIs(type(deeds), list)
        self.assertEqual({type(deed) for deed in deeds}, {tuple})

    def test_a_sign_at_any_place_that_is_no_figure(self):
        for sign in OTHER_SIGNS:
            self.refused(NoFigure, dialled, "12", sign)
            for place in range(5):
                self.refused(NoFigure, dialled, "12", "9081"[:place] + sign + "9081"[place:])
        self.refused(NoFigure, dialled, "12", "1" * 2000 + "x")

    def test_a_new_list_each_time(self):
        for figures in ("", "12"):
            first = dialled("12", figures)
            second = dialled("12", figures)
            self.assertEqual(first, second)
            self.assertIsNot(first, second)
            first.append("mine")
            self.assertEqual(dialled("12", figures), second)


if __name__ == "__main__":
    unittest.main()
