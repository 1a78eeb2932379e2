import random
import unittest

from stephall.errors import NoSwitch
from stephall.seekers import Seekers
from tests.helper import FAR, HallCase


def told(seekers):
    """All that can be asked of seekers."""
    return (seekers.holders(), seekers.stuck(), seekers.mark(), seekers.shares(), seekers.steps())


class Taken(HallCase):
    def test_at_first(self):
        for many in (1, 2, 60):
            for places in (1, 2, 60):
                self.assertEqual(told(Seekers(many, places)), ([None] * many, [], 0, [0] * many, [0] * many))

    def test_no_step_one_step_and_more(self):
        seekers = Seekers(4, 5)
        self.assertEqual([seekers.take(place) for place in (0, 1, 4)], [(0, 0), (1, 1), (2, 4)])
        self.assertEqual(told(seekers), ([0, 1, 4, None], [], 3, [1, 1, 1, 0], [0, 1, 4, 0]))

    def test_a_pair_of_whole_numbers(self):
        taken = Seekers(2, 3).take(2)
        self.assertIs(type(taken), tuple)
        for number in taken:
            self.whole(number)

    def test_round_from_the_last_place_to_the_first(self):
        seekers = Seekers(1, 5)
        self.assertEqual(seekers.take(4), (0, 4))
        seekers.free(0)
        self.assertEqual(seekers.take(0), (0, 1))
        seekers.free(0)
        self.assertEqual(seekers.take(3), (0, 3))
        seekers.free(0)
        self.assertEqual(seekers.take(2), (0, 4))
        seekers.free(0)
        self.assertEqual(seekers.take(2), (0, 0))
        self.assertEqual(told(seekers), ([2], [], 0, [5], [12]))

    def test_one_place_needs_no_step(self):
        for many in (1, 60):
            seekers = Seekers(many, 1)
            for time in range(3 * many):
                self.assertEqual(seekers.take(0), (time % many, 0))
                seekers.free(time % many)
            self.assertEqual(told(seekers), ([None] * many, [], 0, [3] * many, [0] * many))

    def test_round_and_round_past_the_last_one(self):
        seekers = Seekers(3, 4)
        for time in range(10):
            k, steps = seekers.take(time % 4)
            self.assertEqual(k, time % 3)
            self.assertEqual(seekers.mark(), (time + 1) % 3)
            seekers.free(k)
        self.assertEqual(seekers.shares(), [4, 3, 3])

    def test_the_mark_goes_on_where_earlier_ones_are_free(self):
        seekers = Seekers(3, 9)
        self.assertEqual(seekers.take(8), (0, 8))
        seekers.free(0)
        self.assertEqual(seekers.take(8), (1, 8))
        self.assertEqual(seekers.take(7), (2, 7))
        self.assertEqual(seekers.mark(), 0)

    def test_held_and_stuck_ones_are_gone_round(self):
        seekers = Seekers(5, 9)
        for place in range(3):
            seekers.take(place)
        seekers.stick(3)
        self.assertEqual(seekers.take(8), (4, 8))
        seekers.free(1)
        self.assertEqual(seekers.mark(), 0)
        self.assertEqual(seekers.take(3), (1, 2))
        self.assertEqual(seekers.mark(), 2)
        seekers.free(0)
        self.assertEqual(seekers.take(1), (0, 1))
        self.assertEqual(seekers.mark(), 1)
        self.assertEqual(seekers.holders(), [1, 3, 2, None, 8])
        self.assertEqual(seekers.shares(), [2, 2, 1, 0, 1])
        self.assertEqual(seekers.steps(), [1, 3, 2, 0, 8])

    def test_none_where_all_are_held_or_stuck(self):
        for many, places in ((1, 2), (2, 3), (59, 60), (60, 60)):
            for jammed in sorted({0, 1, many // 2, many}):
                seekers = Seekers(many, places)
                for k in range(jammed):
                    seekers.stick(k)
                for k in range(jammed, many):
                    self.assertEqual(seekers.take(k % places)[0], k)
                ahead = told(seekers)
                self.assertIsNone(seekers.take(places - 1))
                self.assertIsNone(seekers.take(0))
                self.assertEqual(told(seekers), ahead)

    def test_sixty_over_sixty(self):
        seekers = Seekers(60, 60)
        self.assertEqual([seekers.take(place) for place in range(60)], [(k, k) for k in range(60)])
        self.assertEqual(told(seekers), (list(range(60)), [], 0, [1] * 60, list(range(60))))
        self.assertIsNone(seekers.take(0))
        for k in reversed(range(60)):
            seekers.free(k)
        self.assertEqual([seekers.take(59 - k) for k in range(60)], [(k, (59 - 2 * k) % 60) for k in range(60)])
        self.assertEqual(seekers.shares(), [2] * 60)

    def test_some_more_than_sixty(self):
        seekers = Seekers(62, 61)
        self.assertEqual([seekers.take(place) for place in range(61)], [(k, k) for k in range(61)])
        self.assertEqual(seekers.mark(), 61)

    def test_one_over_sixty(self):
        seekers = Seekers(1, 60)
        went = 0
        for place in (59, 59, 0, 58, 57):
            k, steps = seekers.take(place)
            went += steps
            self.assertEqual(seekers.holders(), [place])
            self.assertEqual(seekers.steps(), [went])
            self.assertIsNone(seekers.take((place + 1) % 60))
            seekers.free(0)
        self.assertEqual(went, 59 + 0 + 1 + 58 + 59)


class FreedStuckMended(HallCase):
    def test_freed(self):
        seekers = Seekers(2, 3)
        seekers.take(0)
        seekers.take(2)
        self.assertIsNone(seekers.free(0))
        self.assertEqual(told(seekers), ([None, 2], [], 0, [1, 1], [0, 2]))
        self.assertEqual(seekers.take(1), (0, 1))

    def test_freed_where_nobody_holds_it(self):
        seekers = Seekers(3, 3)
        for k in range(3):
            self.refused(NoSwitch, seekers.free, k)
        seekers.take(0)
        seekers.free(0)
        self.refused(NoSwitch, seekers.free, 0)
        seekers.stick(1)
        self.refused(NoSwitch, seekers.free, 1)
        self.assertEqual(told(seekers), ([None] * 3, [1], 1, [1, 0, 0], [0, 0, 0]))

    def test_held_by_place_nought_is_held(self):
        seekers = Seekers(1, 2)
        seekers.take(0)
        self.assertEqual(seekers.holders(), [0])
        self.assertIsNone(seekers.take(1))
        self.assertIsNone(seekers.free(0))

    def test_stuck_and_mended(self):
        seekers = Seekers(3, 3)
        self.assertIsNone(seekers.stick(2))
        self.assertIsNone(seekers.stick(0))
        self.assertEqual(told(seekers), ([None] * 3, [0, 2], 0, [0] * 3, [0] * 3))
        self.assertEqual(seekers.take(1), (1, 1))
        self.assertIsNone(seekers.take(2))
        self.assertIsNone(seekers.mend(0))
        self.assertEqual(seekers.stuck(), [2])
        self.assertEqual(seekers.take(2), (0, 2))
        self.assertEqual(seekers.mark(), 1)

    def test_a_stuck_one_stays_with_who_holds_it(self):
        seekers = Seekers(1, 4)
        seekers.take(3)
        seekers.stick(0)
        self.assertEqual(told(seekers), ([3], [0], 0, [1], [3]))
        seekers.free(0)
        self.assertEqual(told(seekers), ([None], [0], 0, [1], [3]))
        self.assertIsNone(seekers.take(1))
        seekers.mend(0)
        self.assertEqual(seekers.take(1), (0, 2))

    def test_mended_while_it_is_held(self):
        seekers = Seekers(2, 4)
        seekers.take(3)
        seekers.stick(0)
        seekers.mend(0)
        self.assertEqual(told(seekers), ([3, None], [], 1, [1, 0], [3, 0]))
        self.assertEqual(seekers.take(2), (1, 2))
        self.assertIsNone(seekers.take(1))

    def test_stuck_twice_mended_twice_mended_where_it_was_not_stuck(self):
        seekers = Seekers(2, 2)
        seekers.mend(1)
        self.assertEqual(seekers.stuck(), [])
        seekers.stick(1)
        seekers.stick(1)
        self.assertEqual(seekers.stuck(), [1])
        seekers.mend(1)
        self.assertEqual(seekers.stuck(), [])
        seekers.mend(1)
        self.assertEqual(told(seekers), ([None, None], [], 0, [0, 0], [0, 0]))
        self.assertEqual([seekers.take(0), seekers.take(1)], [(0, 0), (1, 1)])

    def test_numbers_of_no_seeker(self):
        for many in (1, 2, 60):
            seekers = Seekers(many, 3)
            seekers.take(2)
            seekers.stick(many - 1)
            ahead = told(seekers)
            for k in (-1, -2, -many, -many - 1, many, many + 1, 61, 99, *FAR):
                for deed in (seekers.free, seekers.stick, seekers.mend):
                    self.refused(NoSwitch, deed, k)
            self.assertEqual(told(seekers), ahead)

    def test_truths_are_no_numbers_of_seekers(self):
        seekers = Seekers(2, 2)
        seekers.take(0)
        seekers.take(1)
        for truth in (True, False):
            for deed in (seekers.free, seekers.stick, seekers.mend):
                self.refused(NoSwitch, deed, truth)

    def test_first_and_last_seeker(self):
        seekers = Seekers(60, 60)
        for place in range(60):
            seekers.take(place)
        for k in (0, 59):
            seekers.stick(k)
            seekers.free(k)
            self.assertIsNone(seekers.take(0))
            seekers.mend(k)
            self.assertEqual(seekers.take(k)[0], k)


class OwnLists(HallCase):
    def test_a_told_list_that_is_changed_changes_nothing(self):
        seekers = Seekers(3, 3)
        seekers.take(1)
        seekers.stick(2)
        ahead = told(seekers)
        for ask in (seekers.holders, seekers.stuck, seekers.shares, seekers.steps):
            mine = ask()
            self.assertIs(type(mine), list)
            self.assertIsNot(mine, ask())
            mine.append(9)
            mine[0] = 7
            mine.reverse()
            self.assertEqual(told(seekers), ahead)

    def test_no_two_lists_are_one_at_first_either(self):
        seekers = Seekers(2, 2)
        lists = [seekers.holders(), seekers.stuck(), seekers.shares(), seekers.steps(), seekers.shares()]
        self.assertEqual(len({id(one) for one in lists}), len(lists))

    def test_an_earlier_list_stays(self):
        seekers = Seekers(2, 2)
        lists = [seekers.holders(), seekers.stuck(), seekers.shares(), seekers.steps()]
        seekers.take(1)
        seekers.stick(0)
        self.assertEqual(lists, [[None, None], [], [0, 0], [0, 0]])

    def test_two_of_them_share_nothing(self):
        first = Seekers(2, 2)
        second = Seekers(2, 2)
        first.take(1)
        first.stick(1)
        self.assertEqual(told(second), ([None, None], [], 0, [0, 0], [0, 0]))


class Walked(HallCase):
    """Any deeds, beside seekers that go place by place."""

    def walk(self, many, places, seed):
        chance = random.Random(seed)
        seekers = Seekers(many, places)
        holders, stuck, mark = [None] * many, set(), 0
        stands, shares, steps = [0] * many, [0] * many, [0] * many
        for _ in range(300):
            place, k = chance.randrange(places), chance.randrange(many)
            deed = chance.choice(["take", "take", "free", "free", "stick", "mend"])
            if deed == "take" and place not in holders:
                answer, walked = None, 0
                for _ in range(many):
                    if holders[mark] is None and mark not in stuck:
                        answer = mark
                        break
                    mark = (mark + 1) % many
                if answer is None:
                    self.assertIsNone(seekers.take(place))
                else:
                    while stands[answer] != place:
                        stands[answer] = 0 if stands[answer] == places - 1 else stands[answer] + 1
                        walked += 1
                    holders[answer] = place
                    shares[answer] += 1
                    steps[answer] += walked
                    mark = 0 if answer == many - 1 else answer + 1
                    self.assertEqual(seekers.take(place), (answer, walked))
            elif deed == "free" and holders[k] is not None:
                holders[k] = None
                seekers.free(k)
            elif deed == "stick":
                stuck.add(k)
                seekers.stick(k)
            elif deed == "mend":
                stuck.discard(k)
                seekers.mend(k)
            self.assertEqual(told(seekers), (holders, sorted(stuck), mark, shares, steps))

    def test_any_deeds(self):
        sizes = ((1, 1), (1, 60), (60, 1), (60, 60), (2, 3), (3, 2), (5, 5), (7, 30))
        for seed, (many, places) in enumerate(sizes):
            for more in range(5):
                self.walk(many, places, 100 * seed + more)


if __name__ == "__main__":
    unittest.main()
