"""Refusals: each range at its ends and one beyond, which refusal is first, and that all stays as it was."""

import unittest

from helper import (
    DAY, LAST_TIME, MOST, alone, ask, away, group, last, look, member, of, off, on, quick, time, upcoming,
)


class GroupRanges(unittest.TestCase):
    def taken(self, **settings):
        self.assertEqual(ask(group(1, 0, **settings)), [[0]], settings)

    def refused(self, **settings):
        self.assertEqual(ask(group(1, 0, **settings), on(1, 0)), [[-1], [-2]], settings)

    def test_group(self):
        self.assertEqual(ask(group(0, 0), group(15, 0), group(16, 0), group(MOST, 0)), [[0], [0], [-1], [-1]])

    def test_period(self):
        self.taken(period=1000, quick=1000)
        self.taken(period=DAY, quick=1000)
        self.refused(period=999, quick=999)
        self.refused(period=999, quick=1000)
        self.refused(period=DAY + 1, quick=1000)
        self.refused(period=0, quick=0)
        self.refused(period=MOST, quick=1000)

    def test_quick(self):
        self.taken(period=5000, quick=1000)
        self.taken(period=5000, quick=5000)
        self.taken(period=DAY, quick=DAY)
        self.refused(period=5000, quick=999)
        self.refused(period=5000, quick=5001)
        self.refused(period=DAY, quick=DAY + 1)
        self.refused(period=5000, quick=0)
        self.refused(period=5000, quick=MOST)

    def test_phase(self):
        self.taken(phase=0)
        self.taken(phase=DAY - 1)
        self.refused(phase=DAY)
        self.refused(phase=MOST)

    def test_phase_may_be_above_the_period(self):
        self.taken(phase=1001)

    def test_burst(self):
        self.taken(burst=1)
        self.taken(burst=16)
        self.refused(burst=0)
        self.refused(burst=17)
        self.refused(burst=MOST)

    def test_gap(self):
        self.taken(burst=2, gap=1)
        self.refused(burst=2, gap=0)
        self.refused(burst=1, gap=0)

    def test_all_gaps_together(self):
        self.taken(burst=2, gap=999)
        self.refused(burst=2, gap=1000)
        self.taken(burst=4, gap=333)
        self.refused(burst=4, gap=334)
        self.taken(period=1006, quick=1006, burst=16, gap=67)
        self.refused(period=1005, quick=1005, burst=16, gap=67)
        self.taken(period=DAY, quick=DAY, burst=2, gap=DAY - 1)
        self.refused(period=DAY, quick=DAY, burst=2, gap=DAY)
        self.refused(burst=16, gap=MOST)

    def test_all_gaps_together_are_below_the_quick_period_not_the_period(self):
        self.refused(period=5000, quick=1000, burst=2, gap=1000)
        self.taken(period=5000, quick=1001, burst=2, gap=1000)

    def test_one_reading_has_no_gap_to_be_below(self):
        self.taken(burst=1, gap=1000)
        self.taken(burst=1, gap=MOST)

    def test_slack(self):
        self.taken(slack=0)
        self.taken(slack=999)
        self.refused(slack=1000)
        self.refused(period=5000, quick=1000, slack=1000)
        self.taken(period=DAY, quick=DAY, slack=DAY - 1)
        self.refused(period=DAY, quick=DAY, slack=DAY)
        self.refused(slack=MOST)


class OtherRanges(unittest.TestCase):
    def test_group_numbers(self):
        for number in (16, MOST):
            told = ask(group(1, 0), away(number, 0), member(0, number, 0), on(number, 0))
            self.assertEqual(told[1:], [[-1]] * 3, number)

    def test_least_and_greatest_group(self):
        for number in (0, 15):
            told = ask(group(number, 0), member(0, number, 0), on(number, 0), away(number, 0))
            self.assertEqual(told, [[0]] * 4, number)

    def test_channels(self):
        told = ask(group(1, 0), member(0, 1, 0), member(63, 1, 0), alone(0, 0), alone(63, 0))
        self.assertEqual(told, [[0]] * 5)
        told = ask(group(1, 0), member(64, 1, 0), alone(64, 0), member(MOST, 1, 0), alone(MOST, 0))
        self.assertEqual(told[1:], [[-1]] * 4)

    def test_times(self):
        for now in (0, LAST_TIME):
            told = ask(group(1, now), member(0, 1, now), alone(0, now), on(1, now), away(1, now))
            self.assertEqual(told, [[0]] * 5, now)
        for now in (LAST_TIME + 1, MOST):
            told = ask(group(1, 0), group(2, now), member(0, 1, now), alone(0, now), on(1, now), away(1, now))
            self.assertEqual(told, [[0]] + [[-1]] * 5, now)


class NoSuchGroup(unittest.TestCase):
    def test_never_set(self):
        for number in (0, 7, 15):
            self.assertEqual(ask(away(number, 0), member(0, number, 0), on(number, 0)), [[-2]] * 3)

    def test_others_are_there(self):
        told = ask(group(1, 0), away(2, 0), member(0, 2, 0), on(2, 0))
        self.assertEqual(told[1:], [[-2]] * 3)


class TimeBefore(unittest.TestCase):
    def test_each_call(self):
        told = ask(group(1, 500), group(1, 499), away(1, 499), member(0, 1, 499), alone(0, 499), on(1, 499))
        self.assertEqual(told, [[0]] + [[-4]] * 5)

    def test_the_same_time_is_not_before(self):
        told = ask(group(1, 500), group(1, 500), member(0, 1, 500), alone(0, 500), on(1, 500), away(1, 500))
        self.assertEqual(told, [[0]] * 6)

    def test_each_call_moves_the_time(self):
        set_first = group(1, 0)
        for call in (group(1, 500), away(1, 500), member(0, 1, 500), alone(0, 500), on(1, 500)):
            self.assertEqual(ask(set_first, call, time(499), time(500))[1:], [[0], [-4], [0]], call)


class WhichIsFirst(unittest.TestCase):
    def test_range_before_no_such_group(self):
        told = ask(away(1, LAST_TIME + 1), member(64, 1, 0), member(0, 1, MOST), on(1, LAST_TIME + 1))
        self.assertEqual(told, [[-1]] * 4)

    def test_range_before_time(self):
        told = ask(
            time(500), group(16, 0), group(1, 0, slack=1000), away(16, 0), member(64, 1, 0),
            member(0, 16, 0), alone(64, 0), on(16, 0),
        )
        self.assertEqual(told[1:], [[-1]] * 7)

    def test_no_such_group_before_time(self):
        self.assertEqual(ask(time(500), away(1, 0), member(0, 1, 0), on(1, 0))[1:], [[-2]] * 3)

    def test_range_before_both(self):
        self.assertEqual(ask(time(500), member(64, 1, 0)), [[0], [-1]])


class OffQuickAndTime(unittest.TestCase):
    def test_group_numbers(self):
        for number in (0, 15):
            told = ask(group(number, 0), off(number, 0), quick(number, 0, 1))
            self.assertEqual(told, [[0]] * 3, number)
        for number in (16, MOST):
            self.assertEqual(ask(group(1, 0), off(number, 0), quick(number, 0, 1))[1:], [[-1]] * 2, number)

    def test_times(self):
        self.assertEqual(ask(group(1, 0), off(1, 0), quick(1, 0, 1), time(0)), [[0]] * 4)
        told = ask(group(1, 0), off(1, LAST_TIME), time(LAST_TIME))
        self.assertEqual(told, [[0]] * 3)
        for now in (LAST_TIME + 1, MOST):
            told = ask(group(1, 0), off(1, now), quick(1, now, MOST), quick(1, now, now), time(now))
            self.assertEqual(told, [[0]] + [[-1]] * 4, now)

    def test_till(self):
        for now in (0, 500, LAST_TIME - 1):
            self.assertEqual(ask(group(1, 0), quick(1, now, now))[1], [-1], now)
            self.assertEqual(ask(group(1, 0), quick(1, now, max(0, now - 1)))[1], [-1], now)
            self.assertEqual(ask(group(1, 0), quick(1, now, now + 1))[1], [0], now)
            self.assertEqual(ask(group(1, 0), quick(1, now, LAST_TIME))[1], [0], now)
            self.assertEqual(ask(group(1, 0), quick(1, now, LAST_TIME + 1))[1], [-1], now)
            self.assertEqual(ask(group(1, 0), quick(1, now, MOST))[1], [-1], now)

    def test_no_till_is_behind_the_last_time(self):
        told = ask(group(1, 0), quick(1, LAST_TIME, LAST_TIME), quick(1, LAST_TIME, LAST_TIME + 1))
        self.assertEqual(told[1:], [[-1], [-1]])

    def test_no_such_group(self):
        for number in (0, 7, 15):
            self.assertEqual(ask(off(number, 0), quick(number, 0, 1)), [[-2]] * 2, number)
        self.assertEqual(ask(group(1, 0), off(2, 0), quick(2, 0, 1))[1:], [[-2]] * 2)
        self.assertEqual(ask(group(1, 0), away(1, 0), off(1, 0), quick(1, 0, 1))[2:], [[-2]] * 2)

    def test_time_before(self):
        told = ask(group(1, 500), off(1, 499), quick(1, 499, 900), time(499), time(0))
        self.assertEqual(told, [[0]] + [[-4]] * 4)

    def test_the_same_time_is_not_before(self):
        told = ask(group(1, 500), off(1, 500), quick(1, 500, 900), time(500), off(1, 500))
        self.assertEqual(told, [[0]] * 5)

    def test_each_moves_the_time(self):
        for call in (off(1, 500), quick(1, 500, 900), time(500)):
            self.assertEqual(ask(group(1, 0), call, time(499), time(500))[1:], [[0], [-4], [0]], call)

    def test_till_does_not_move_the_time(self):
        self.assertEqual(ask(group(1, 0), quick(1, 500, 900), time(500))[2], [0])

    def test_range_before_no_such_group(self):
        told = ask(off(1, LAST_TIME + 1), quick(1, MOST, MOST), quick(1, 0, LAST_TIME + 1), quick(1, 5, 5))
        self.assertEqual(told, [[-1]] * 4)

    def test_range_before_time(self):
        told = ask(group(1, 500), off(16, 0), quick(16, 0, 900), quick(1, 400, 400), quick(1, 400, 399),
                   quick(1, 0, LAST_TIME + 1))
        self.assertEqual(told[1:], [[-1]] * 5)

    def test_till_between_now_and_the_time_before(self):
        # 450 is after the now that's told, so the range holds; but that now is before what the time was.
        self.assertEqual(ask(group(1, 500), quick(1, 400, 450))[1], [-4])

    def test_no_such_group_before_time(self):
        self.assertEqual(ask(time(500), off(1, 0), quick(1, 0, 900))[1:], [[-2]] * 2)

    def test_range_before_both(self):
        self.assertEqual(ask(time(500), off(16, 0), quick(16, 0, 900), quick(1, 400, 400))[1:], [[-1]] * 3)


class AllStays(unittest.TestCase):
    """Behind each refusal the same calls answer as without it."""

    REFUSED = (
        group(1, 1500, slack=1000), group(16, 1500), group(1, 400), group(1, LAST_TIME + 1),
        away(16, 1500), away(2, 1500), away(1, 400), away(1, LAST_TIME + 1),
        member(64, 1, 1500), member(9, 16, 1500), member(9, 2, 1500), member(8, 3, 400), member(9, 1, MOST),
        alone(64, 1500), alone(8, 400), alone(8, LAST_TIME + 1),
        on(16, 1500), on(2, 1500), on(3, 400), on(3, LAST_TIME + 1),
        off(16, 1500), off(2, 1500), off(1, 400), off(1, LAST_TIME + 1),
        quick(16, 1500, 9000), quick(2, 1500, 9000), quick(1, 400, 9000), quick(3, 400, 450), quick(1, 1500, 1500),
        quick(1, 1500, 1499), quick(1, 1500, LAST_TIME + 1), quick(1, LAST_TIME + 1, MOST),
        time(400), time(LAST_TIME + 1), time(MOST), look(2), look(16), of(2), of(MOST),
    )

    def test_nothing_is_changed(self):
        before = (
            group(1, 0, period=1500, slack=20), group(3, 0, slack=30), member(8, 1, 0), on(1, 0),
            quick(1, 0, 1200), quick(3, 0, 700), time(500),
        )
        asking = (upcoming(), look(1), look(3), of(1), of(3), look(2), of(2), look(16))
        behind = (
            *asking, time(500), time(1010), on(3, 1010), *asking, time(2000), *asking, away(1, 2500), away(3, 3000),
        )
        expected = ask(*before, *behind)
        for call in self.REFUSED:
            told = ask(*before, call, *behind)
            self.assertEqual(len(told[len(before)]), 1, call)
            self.assertIn(told[len(before)][0], (-1, -2, -4), call)
            self.assertEqual(told[:len(before)] + told[len(before) + 1:], expected, call)

    def test_next_with_none_on_changes_nothing(self):
        told = ask(group(1, 5), upcoming(), look(1), on(1, 7), time(1000))
        self.assertEqual(told[1:], [[-2], [0, 0, 6, 6, 0, 0], [0], [1, 2, 1, 1000, 0]])

    def test_a_refused_setting_leaves_it_on(self):
        told = last(group(1, 0), on(1, 0), group(1, 0, burst=17), time(1000))
        self.assertEqual(told, [1, 2, 1, 1000, 0])


if __name__ == "__main__":
    unittest.main()
