import random
import unittest

from stephall.errors import NoLine, NoSwitch, NothingLeft, NotSo
from stephall.figures import dialled
from stephall.halls import Hall
from stephall.kept import Keeper
from stephall.plans import Plan
from stephall.reports import done_again
from tests.helper import (
    SCENES, HallCase, answer_or_kind, answers_of, any_deeds, any_plan, any_rows, asked, at_seekers, calls, small_plan,
)

TALK = [*calls("111", "112"), ("lift", "112")]
# Where all rest: of each class a deed that is refused so.
REFUSED = (
    (NoLine, ("lift", "x")), (NoSwitch, ("stick", "9", 0)), (NoSwitch, ("mend", "", 3)), (NotSo, ("hang", "111")),
)
# What tells two halls apart that are asked alike: pulses, the mark, where the seekers stand.
PROBE = [("pulse", "111"), ("gap", "111"), ("lift", "113"), ("lift", "121"), ("lift", "211"), ("hang", "113"),
         ("lift", "113"), ("mend", "", 0), ("mend", "", 1), ("mend", "", 2), ("hang", "112"), ("lift", "112")]


class KeeperCase(HallCase):
    def setUp(self):
        self.plan = small_plan()
        self.keeper = Keeper(self.plan)

    def stands(self, done, again, keeper=None, plan=None):
        """Fails unless a keeper is as these deeds lead it, with so many to be done again."""
        keeper, plan = keeper or self.keeper, plan or small_plan()
        self.assertEqual(keeper.deeds(), done)
        self.assertEqual(keeper.left(), (len(done), again))
        self.assertEqual(asked(keeper.hall(), plan), asked(done_again(plan, done), plan))

    def same_hall(self, first, second, probe=PROBE):
        """Fails unless two halls go on alike."""
        for deed in probe:
            self.assertEqual(answer_or_kind(first, deed), answer_or_kind(second, deed))


class AtFirst(KeeperCase):
    def test_nothing_is_left(self):
        self.stands([], 0)
        for time in range(2):
            self.refused(NothingLeft, self.keeper.back)
            self.refused(NothingLeft, self.keeper.again)
            self.stands([], 0)

    def test_kinds(self):
        self.keeper.do(("lift", "111"))
        self.assertIs(type(self.keeper.left()), tuple)
        for many in self.keeper.left():
            self.whole(many)
        self.assertIs(type(self.keeper.deeds()), list)
        self.assertIs(type(self.keeper.hall()), Hall)
        self.assertIsNone(self.keeper.back())
        self.assertIs(type(self.keeper.again()), list)

    def test_the_plan_stays_and_is_not_kept(self):
        answers_of(self.keeper, TALK)
        self.assertEqual((self.plan.long, self.plan.lines, self.plan.seekers, self.plan.groups),
                         (3, small_plan().lines, 3, small_plan().groups))
        self.plan.long, self.plan.seekers, self.plan.lines, self.plan.groups = 2, 60, ("99",), ()
        self.stands(TALK, 0)
        self.keeper.back()
        self.stands(TALK[:-1], 1)
        self.assertEqual(self.keeper.again(), [("talks", "111", "112")])
        self.stands(TALK, 0)


class Do(KeeperCase):
    def test_as_a_hall_answers(self):
        hall = Hall(small_plan())
        for deed in [*TALK, ("hang", "111"), ("stick", "", 2), ("mend", "", 2)]:
            self.assertEqual(self.keeper.do(deed), hall.do(deed))
            self.stands(hall.deeds(), 0)

    def test_each_scene(self):
        for name, (way, deeds) in SCENES.items():
            keeper = Keeper(small_plan())
            self.assertEqual(answers_of(keeper, deeds), answers_of(Hall(small_plan()), deeds))
            self.assertEqual(keeper.hall().way("111"), way)
            self.stands(deeds, 0, keeper)

    def test_refused_as_a_hall_does(self):
        for kind, deed in REFUSED:
            self.refused(kind, self.keeper.do, deed)
            self.stands([], 0)
        self.keeper.do(("lift", "111"))
        for kind, deed in ((NotSo, ("lift", "111")), (NotSo, ("gap", "111")), (NoLine, ("gap", ""))):
            self.refused(kind, self.keeper.do, deed)
            self.stands([("lift", "111")], 0)

    def test_a_refused_deed_is_none_to_take_back(self):
        self.keeper.do(("lift", "111"))
        for kind, deed in REFUSED[:3]:
            self.refused(kind, self.keeper.do, deed)
        self.keeper.back()
        self.stands([], 1)
        self.refused(NothingLeft, self.keeper.back)


class BackAndAgain(KeeperCase):
    def test_one(self):
        answer = self.keeper.do(("lift", "112"))
        self.keeper.back()
        self.stands([], 1)
        self.assertEqual(self.keeper.again(), answer)
        self.stands([("lift", "112")], 0)
        self.refused(NothingLeft, self.keeper.again)
        self.stands([("lift", "112")], 0)

    def test_from_the_first_to_the_last(self):
        for name, (way, deeds) in SCENES.items():
            keeper = Keeper(small_plan())
            answers = answers_of(keeper, deeds)
            for many in reversed(range(len(deeds))):
                keeper.back()
                self.stands(deeds[:many], len(deeds) - many, keeper)
            self.refused(NothingLeft, keeper.back)
            self.stands([], len(deeds), keeper)
            for many, answer in enumerate(answers):
                self.assertEqual(keeper.again(), answer)
                self.stands(deeds[:many + 1], len(deeds) - many - 1, keeper)
            self.refused(NothingLeft, keeper.again)
            self.stands(deeds, 0, keeper)

    def test_in_between(self):
        answers = answers_of(self.keeper, TALK)
        for time in range(3):
            self.keeper.back()
        self.stands(TALK[:-3], 3)
        self.assertEqual(self.keeper.again(), answers[-3])
        self.stands(TALK[:-2], 2)
        self.keeper.back()
        self.keeper.back()
        self.stands(TALK[:-4], 4)
        self.assertEqual([self.keeper.again() for time in range(4)], answers[-4:])
        self.stands(TALK, 0)

    def test_a_new_deed_ends_what_could_be_done_again(self):
        answers_of(self.keeper, TALK)
        self.keeper.back()
        self.keeper.back()
        self.assertEqual(self.keeper.do(("hang", "111")), [("rests", "111")])
        self.stands([*TALK[:-2], ("hang", "111")], 0)
        self.refused(NothingLeft, self.keeper.again)
        self.stands([*TALK[:-2], ("hang", "111")], 0)
        self.keeper.back()
        self.stands(TALK[:-2], 1)
        self.assertEqual(self.keeper.again(), [("rests", "111")])

    def test_the_same_deed_done_anew_ends_it_too(self):
        answers_of(self.keeper, TALK)
        self.keeper.back()
        self.keeper.back()
        self.keeper.do(TALK[-2])
        self.stands(TALK[:-1], 0)
        self.refused(NothingLeft, self.keeper.again)

    def test_a_deed_of_which_nothing_comes_ends_it_too(self):
        self.keeper.do(("lift", "111"))
        self.keeper.back()
        self.assertEqual(self.keeper.do(("mend", "", 0)), [])
        self.stands([("mend", "", 0)], 0)
        self.refused(NothingLeft, self.keeper.again)

    def test_a_refused_deed_between_changes_nothing(self):
        answers = answers_of(self.keeper, TALK)
        for many in range(len(TALK)):
            self.keeper.back()
            for kind, deed in REFUSED[:3]:
                self.refused(kind, self.keeper.do, deed)
            self.stands(TALK[:len(TALK) - many - 1], many + 1)
        self.refused(NotSo, self.keeper.do, ("hang", "111"))
        for many, answer in enumerate(answers):
            self.assertEqual(self.keeper.again(), answer)
            self.refused(NoLine, self.keeper.do, ("hang", "x"))
            self.stands(TALK[:many + 1], len(TALK) - many - 1)

    def test_shares_steps_the_mark_and_those_that_wait(self):
        deeds = [("lift", "112"), ("lift", "211"), ("lift", "113"), ("lift", "121"), ("lift", "111"), ("hang", "211")]
        answers_of(self.keeper, deeds)
        self.assertEqual(self.keeper.hall().waiting(), ["111"])
        self.keeper.back()
        hall = self.keeper.hall()
        self.assertEqual((hall.waiting(), hall.shares(""), hall.steps()), (["121", "111"], [1, 1, 1], [1, 4, 2]))
        for time in range(3):
            self.keeper.back()
        hall = self.keeper.hall()
        self.assertEqual((hall.waiting(), hall.shares(""), hall.steps()), ([], [1, 1, 0], [1, 4, 0]))
        # The mark stands at 2, seeker 0 at place 1.
        self.assertEqual(self.keeper.do(("lift", "111")), [("waits", "111"), ("tone", "111", 2, 0)])
        self.keeper.do(("hang", "112"))
        self.assertEqual(self.keeper.do(("lift", "113")), [("waits", "113"), ("tone", "113", 0, 1)])

    def test_a_stuck_one_is_mended_and_a_mended_one_stuck_by_back(self):
        answers_of(self.keeper, [("stick", "1", 0), ("mend", "1", 0)])
        self.keeper.back()
        self.assertEqual(self.keeper.hall().paper("1"), ("stuck", "free"))
        self.keeper.back()
        self.assertEqual(self.keeper.hall().paper("1"), ("free", "free"))
        self.keeper.again()
        self.assertEqual(self.keeper.hall().paper("1"), ("stuck", "free"))

    def test_pulses_are_taken_back(self):
        answers_of(self.keeper, [("lift", "111"), *[("pulse", "111")] * 3])
        self.keeper.back()
        self.assertEqual(self.keeper.do(("gap", "111")), [("takes", "111", "2", 0)])
        for time in range(2):
            self.keeper.back()
        self.assertEqual(self.keeper.do(("gap", "111")), [("takes", "111", "1", 0)])

    def test_hundreds(self):
        plan = Plan(4, [str(k) for k in range(1100, 1160)], 20, [("1", 10), ("11", 8)])
        hall, keeper = Hall(plan), Keeper(plan)
        answers = []
        for deed in any_deeds(random.Random(3), plan, 600):
            answer = answer_or_kind(hall, deed)
            self.assertEqual(answer_or_kind(keeper, deed), answer)
            if isinstance(answer, list):
                answers.append(answer)
        deeds = hall.deeds()
        self.assertGreater(len(deeds), 400)
        for many in range(len(deeds)):
            keeper.back()
            self.assertEqual(keeper.left(), (len(deeds) - many - 1, many + 1))
        self.refused(NothingLeft, keeper.back)
        self.assertEqual(asked(keeper.hall(), plan), asked(Hall(plan), plan))
        self.assertEqual([keeper.again() for deed in deeds], answers)
        self.refused(NothingLeft, keeper.again)
        self.stands(deeds, 0, keeper, plan)


class TheHallTold(KeeperCase):
    def test_as_its_own_in_each_scene(self):
        for name, (way, deeds) in SCENES.items():
            keeper = Keeper(small_plan())
            answers_of(keeper, [*deeds, ("stick", "1", 1), ("mend", "1", 1)])
            keeper.back()
            keeper.back()
            first, second = keeper.hall(), done_again(small_plan(), deeds)
            self.assertEqual(asked(first, small_plan()), asked(second, small_plan()))
            self.same_hall(first, second)

    def test_what_is_done_there_changes_nothing_here(self):
        answers_of(self.keeper, TALK)
        self.keeper.back()
        hall = self.keeper.hall()
        answers_of(hall, [("lift", "112"), ("hang", "112"), *at_seekers("stick", 3), ("lift", "211")])
        self.stands(TALK[:-1], 1)
        self.assertEqual(self.keeper.again(), [("talks", "111", "112")])
        self.stands(TALK, 0)
        self.assertEqual(hall.waiting(), ["211"])

    def test_what_is_done_here_changes_nothing_there(self):
        answers_of(self.keeper, TALK)
        hall = self.keeper.hall()
        ahead = asked(hall, small_plan())
        self.keeper.do(("hang", "111"))
        self.assertEqual(asked(hall, small_plan()), ahead)
        for time in range(4):
            self.keeper.back()
        self.keeper.again()
        self.keeper.do(("hang", "111"))
        self.assertEqual(asked(hall, small_plan()), ahead)
        self.assertEqual(hall.do(("hang", "112")), [("rests", "112"), ("waits", "111"), ("tone", "111", 1, 0)])

    def test_two_halls_told_are_two(self):
        answers_of(self.keeper, TALK)
        first, second = self.keeper.hall(), self.keeper.hall()
        self.assertIsNot(first, second)
        first.do(("hang", "111"))
        self.assertEqual(asked(second, small_plan()), asked(done_again(small_plan(), TALK), small_plan()))

    def test_lists_are_the_askers_own(self):
        answers_of(self.keeper, TALK)
        first, second = self.keeper.deeds(), self.keeper.deeds()
        self.assertIsNot(first, second)
        first.clear()
        second.append(("hang", "111"))
        self.stands(TALK, 0)
        self.keeper.back()
        answer = self.keeper.again()
        answer.clear()
        self.keeper.back()
        self.assertEqual(self.keeper.again(), [("talks", "111", "112")])
        answer = self.keeper.do(("hang", "111"))
        answer[0] = "mine"
        self.stands([*TALK, ("hang", "111")], 0)

    def test_asked_twice(self):
        answers_of(self.keeper, TALK)
        self.keeper.back()
        for time in range(3):
            self.assertEqual(self.keeper.left(), (8, 1))
            self.stands(TALK[:-1], 1)


class TwoKeepers(KeeperCase):
    def test_of_one_plan(self):
        other = Keeper(self.plan)
        answers_of(self.keeper, TALK)
        self.stands([], 0, other)
        self.refused(NothingLeft, other.back)
        other.do(("lift", "211"))
        self.keeper.back()
        self.refused(NothingLeft, other.again)
        self.stands([("lift", "211")], 0, other)
        self.stands(TALK[:-1], 1)
        other.back()
        self.stands([], 1, other)
        self.assertEqual(self.keeper.again(), [("talks", "111", "112")])
        self.stands([], 1, other)


class AnyWork(KeeperCase):
    def test_as_two_piles_of_deeds(self):
        backs = 0
        for seed in range(25):
            chance = random.Random(6000 + seed)
            plan = any_plan(chance)
            keeper, done, undone = Keeper(plan), [], []
            for deed in any_deeds(chance, plan, 120):
                while chance.random() < 0.4:
                    backs += self.back_or_again(chance, keeper, done, undone)
                answer = answer_or_kind(done_again(plan, done), deed)
                self.assertEqual(answer_or_kind(keeper, deed), answer)
                if isinstance(answer, list):
                    done.append(deed)
                    undone.clear()
                self.stands(done, len(undone), keeper, plan)
        self.assertGreater(backs, 500)

    def back_or_again(self, chance, keeper, done, undone):
        """Does one of both, and tells whether a deed was taken back."""
        if chance.random() < 0.6:
            if not done:
                self.refused(NothingLeft, keeper.back)
                return 0
            keeper.back()
            undone.append(done.pop())
            return 1
        if not undone:
            self.refused(NothingLeft, keeper.again)
            return 0
        answer = keeper.hall().do(undone[-1])
        self.assertEqual(keeper.again(), answer)
        done.append(undone.pop())
        return 0

    def test_told_halls_go_on_alike(self):
        for plan, deeds in any_rows(20, 150, 7000):
            keeper = Keeper(plan)
            for deed in deeds:
                answer_or_kind(keeper, deed)
            for time in range(len(keeper.deeds()) // 2):
                keeper.back()
            first, second = keeper.hall(), done_again(plan, keeper.deeds())
            self.same_hall(first, second, deeds)
            # So does the keeper, whose own hall was left behind.
            self.same_hall(keeper, done_again(plan, keeper.deeds()), deeds)


class Dialled(KeeperCase):
    def test_figures_taken_back_deed_by_deed(self):
        answers_of(self.keeper, [("lift", "111"), *dialled("111", "21")])
        self.assertEqual(self.keeper.hall().figures("111"), "21")
        self.keeper.back()
        self.assertEqual(self.keeper.hall().figures("111"), "2")
        self.assertEqual(self.keeper.hall().holds("111"), [("", 0), ("2", 0)])
        for time in range(2):
            self.keeper.back()
        self.assertEqual(self.keeper.hall().figures("111"), "")
        self.assertEqual(self.keeper.hall().paper("2"), ("free",))


if __name__ == "__main__":
    unittest.main()
