import random
import unittest

from stephall.errors import NoSwitch
from stephall.groups import Group
from tests.helper import FAR, HallCase


def told(group):
    """All that can be asked of a group."""
    return (group.paper(), group.shares())


class Taken(HallCase):
    def test_at_first(self):
        for many in (0, 1, 2, 10):
            self.assertEqual(told(Group(many)), (("free",) * many, [0] * many))

    def test_no_switch(self):
        group = Group(0)
        self.assertIsNone(group.take("12"))
        self.assertIsNone(group.take("12"))
        self.assertEqual(told(group), ((), []))

    def test_one_switch(self):
        group = Group(1)
        self.assertEqual(group.take("12"), 0)
        self.assertIsNone(group.take("13"))
        self.assertEqual(told(group), (("12",), [1]))
        group.free(0)
        self.assertEqual(group.take("13"), 0)
        self.assertEqual(told(group), (("13",), [2]))

    def test_ten_switches(self):
        group = Group(10)
        self.assertEqual([group.take(str(k)) for k in range(11)], [0, 1, 2, 3, 4, 5, 6, 7, 8, 9, None])
        self.assertEqual(told(group), (tuple("0123456789"), [1] * 10))

    def test_some_more_than_ten(self):
        group = Group(12)
        self.assertEqual([group.take("12") for time in range(13)], [*range(12), None])

    def test_a_number_is_a_whole_one(self):
        group = Group(2)
        self.whole(group.take("12"))
        self.whole(group.take("13"))

    def test_always_the_first_free_one(self):
        group = Group(3)
        for time in range(5):
            self.assertEqual(group.take("12"), 0)
            group.free(0)
        self.assertEqual(group.shares(), [5, 0, 0])
        for who in ("12", "13", "14"):
            group.take(who)
        group.free(2)
        group.free(1)
        self.assertEqual(group.take("15"), 1)
        self.assertEqual(group.take("16"), 2)
        self.assertEqual(told(group), (("12", "15", "16"), [6, 2, 2]))

    def test_held_and_stuck_ones_are_gone_by(self):
        group = Group(4)
        group.take("12")
        group.stick(1)
        self.assertEqual(group.take("13"), 2)
        group.stick(0)
        group.free(0)
        self.assertEqual(group.take("14"), 3)
        ahead = told(group)
        self.assertEqual(ahead, (("stuck", "stuck", "13", "14"), [1, 0, 1, 1]))
        self.assertIsNone(group.take("15"))
        self.assertEqual(told(group), ahead)
        group.mend(1)
        self.assertEqual(group.take("15"), 1)

    def test_one_may_hold_several(self):
        group = Group(3)
        self.assertEqual([group.take("12"), group.take("12")], [0, 1])
        self.assertEqual(group.paper(), ("12", "12", "free"))

    def test_any_text_may_take_one(self):
        for who in ("", "free", "stuck", "a b", "\n", "1" * 20000):
            group = Group(2)
            self.assertEqual(group.take(who), 0)
            self.assertEqual(group.paper(), (who, "free"))
            self.assertEqual(group.take("12"), 1)
            self.assertIsNone(group.take("13"))
            self.assertIsNone(group.free(0))
            self.assertEqual(group.paper(), ("free", "12"))


class FreedStuckMended(HallCase):
    def test_nothing_is_told(self):
        group = Group(1)
        group.take("12")
        for deed in (group.stick, group.free, group.mend):
            self.assertIsNone(deed(0))

    def test_freed_where_nobody_holds_it(self):
        group = Group(3)
        group.take("12")
        group.free(0)
        group.stick(2)
        for k in range(3):
            self.refused(NoSwitch, group.free, k)
        self.assertEqual(told(group), (("free", "free", "stuck"), [1, 0, 0]))

    def test_a_stuck_one_stays_with_who_holds_it(self):
        group = Group(1)
        group.take("12")
        group.stick(0)
        self.assertEqual(group.paper(), ("12",))
        group.free(0)
        self.assertEqual(group.paper(), ("stuck",))
        self.assertIsNone(group.take("13"))
        group.mend(0)
        self.assertEqual(group.paper(), ("free",))
        self.assertEqual(group.take("13"), 0)

    def test_mended_while_it_is_held(self):
        group = Group(1)
        group.take("12")
        group.stick(0)
        group.mend(0)
        self.assertEqual(group.paper(), ("12",))
        self.assertIsNone(group.take("13"))
        group.free(0)
        self.assertEqual(group.paper(), ("free",))

    def test_stuck_twice_mended_twice_mended_where_it_was_not_stuck(self):
        group = Group(2)
        group.mend(1)
        self.assertEqual(group.paper(), ("free", "free"))
        group.stick(1)
        group.stick(1)
        self.assertEqual(group.paper(), ("free", "stuck"))
        group.mend(1)
        self.assertEqual(group.paper(), ("free", "free"))
        group.mend(1)
        self.assertEqual(told(group), (("free", "free"), [0, 0]))

    def test_numbers_of_no_switch(self):
        for many in (0, 1, 2, 10):
            group = Group(many)
            group.take("12")
            ahead = told(group)
            for k in (-1, -2, -10, -11, -many, many, many + 1, 10, 11, 99, *FAR):
                if not 0 <= k < many:
                    for deed in (group.free, group.stick, group.mend):
                        self.refused(NoSwitch, deed, k)
            self.assertEqual(told(group), ahead)

    def test_truths_are_no_numbers_of_switches(self):
        group = Group(2)
        group.take("12")
        group.take("13")
        for truth in (True, False):
            for deed in (group.free, group.stick, group.mend):
                self.refused(NoSwitch, deed, truth)


class Told(HallCase):
    def test_the_paper_is_a_tuple_of_texts(self):
        group = Group(3)
        group.take("12")
        group.stick(1)
        self.assertIs(type(group.paper()), tuple)
        self.assertEqual([type(part) for part in group.paper()], [str] * 3)
        self.assertIs(type(Group(0).paper()), tuple)

    def test_shares_are_the_askers_own(self):
        group = Group(2)
        group.take("12")
        mine = group.shares()
        self.assertIs(type(mine), list)
        self.assertIsNot(mine, group.shares())
        mine[0] = 9
        mine.append(9)
        self.assertEqual(group.shares(), [1, 0])
        earlier = group.shares()
        group.take("13")
        self.assertEqual(earlier, [1, 0])

    def test_two_groups_share_nothing(self):
        first, second = Group(2), Group(2)
        first.take("12")
        first.stick(1)
        self.assertEqual(told(second), (("free", "free"), [0, 0]))


class AnyDeeds(HallCase):
    def test_any_deeds(self):
        for seed in range(40):
            chance = random.Random(seed)
            many = chance.choice([1, 2, 3, 10])
            group = Group(many)
            holders, stuck, shares = [None] * many, set(), [0] * many
            for who in range(200):
                k = chance.randrange(many)
                deed = chance.choice(["take", "take", "free", "stick", "mend"])
                if deed == "take":
                    free = [j for j in range(many) if holders[j] is None and j not in stuck]
                    self.assertEqual(group.take(str(who)), min(free, default=None))
                    if free:
                        holders[free[0]] = str(who)
                        shares[free[0]] += 1
                elif deed == "free" and holders[k] is None:
                    self.refused(NoSwitch, group.free, k)
                elif deed == "free":
                    group.free(k)
                    holders[k] = None
                elif deed == "stick":
                    group.stick(k)
                    stuck.add(k)
                else:
                    group.mend(k)
                    stuck.discard(k)
                paper = [holders[j] or ("stuck" if j in stuck else "free") for j in range(many)]
                self.assertEqual(told(group), (tuple(paper), shares))


if __name__ == "__main__":
    unittest.main()
