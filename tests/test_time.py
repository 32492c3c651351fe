"""How time goes on: which readings count, which are missed or wanted, and how they are told."""

import unittest

from helper import DAY, LAST_TIME, ask, away, group, last, look, member, on, quick, time


class SlackAndNow(unittest.TestCase):
    def test_now_too(self):
        self.assertEqual(ask(group(1, 0), on(1, 0), time(999), time(1000))[2:], [[0], [1, 2, 1, 1000, 0]])

    def test_each_only_once(self):
        self.assertEqual(
            ask(group(1, 0, slack=999), on(1, 0), time(1000), time(1000), time(1500))[2:],
            [[1, 2, 1, 1000, 0], [0], [0]],
        )

    def test_missed_only_once(self):
        self.assertEqual(ask(group(1, 0), on(1, 0), time(1001), time(1001))[2:], [[1, 1, 1, 1], [0]])

    def test_just_the_slack_before_now_is_wanted(self):
        self.assertEqual(last(group(1, 0, slack=300), on(1, 0), time(1300)), [1, 2, 1, 1000, 0])

    def test_more_than_the_slack_is_missed(self):
        self.assertEqual(last(group(1, 0, slack=300), on(1, 0), time(1301)), [1, 1, 1, 1])

    def test_no_slack(self):
        self.assertEqual(last(group(1, 0), on(1, 0), time(1001)), [1, 1, 1, 1])

    def test_missed_where_one_time_alone_is_too_late(self):
        self.assertEqual(last(group(1, 0), on(1, 999), time(1001)), [1, 1, 1, 1])
        self.assertEqual(last(group(1, 0, slack=300), on(1, 999), time(1301)), [1, 1, 1, 1])

    def test_greatest_slack(self):
        calls = (group(1, 0, slack=999), on(1, 0))
        self.assertEqual(last(*calls, time(2999)), [2, 1, 1, 1, 2, 1, 2000, 0])
        self.assertEqual(last(*calls, time(3000)), [2, 1, 1, 2, 2, 1, 3000, 0])

    def test_slack_longer_than_the_time_so_far(self):
        self.assertEqual(last(group(1, 0, period=9000, quick=9000, phase=5, slack=8999), on(1, 0), time(10)),
                         [1, 2, 1, 5, 0])

    def test_period_not_quick_period(self):
        self.assertEqual(last(group(1, 0, period=3000, quick=1000), on(1, 0), time(9000)),
                         [2, 1, 1, 2, 2, 1, 9000, 0])

    def test_longest_period(self):
        calls = (group(1, 0, period=DAY, quick=DAY), on(1, 0))
        self.assertEqual(ask(*calls, time(DAY - 1), time(DAY))[2:], [[0], [1, 2, 1, DAY, 0]])


class Phase(unittest.TestCase):
    def test_none_before_the_phase(self):
        self.assertEqual(
            ask(group(1, 0, phase=2500), on(1, 0), time(2499), time(2500), time(3500))[2:],
            [[0], [1, 2, 1, 2500, 0], [1, 2, 1, 3500, 0]],
        )

    def test_counted_from_the_phase_not_from_on(self):
        self.assertEqual(ask(group(1, 0, phase=200), on(1, 900), time(1200))[2], [1, 2, 1, 1200, 0])

    def test_greatest_phase(self):
        self.assertEqual(
            ask(group(1, 0, phase=DAY - 1), on(1, 0), time(DAY - 2), time(DAY - 1), time(DAY + 999))[2:],
            [[0], [1, 2, 1, DAY - 1, 0], [1, 2, 1, DAY + 999, 0]],
        )

    def test_first_reading_at_the_phase_may_be_missed(self):
        self.assertEqual(last(group(1, 0, phase=7, slack=10), on(1, 0), time(18)), [1, 1, 1, 1])


class Bursts(unittest.TestCase):
    def test_the_gap_apart(self):
        self.assertEqual(
            last(group(1, 0, phase=500, burst=3, gap=10, slack=100), member(2, 1, 0), on(1, 0), time(600)),
            [3, 2, 1, 500, 1, 2, 2, 1, 510, 1, 2, 2, 1, 520, 1, 2],
        )

    def test_now_within_a_burst(self):
        self.assertEqual(
            ask(group(1, 0, phase=500, burst=3, gap=10, slack=100), on(1, 0), time(510), time(519), time(520))[2:],
            [[2, 2, 1, 500, 0, 2, 1, 510, 0], [0], [1, 2, 1, 520, 0]],
        )

    def test_on_within_a_burst(self):
        self.assertEqual(
            last(group(1, 0, phase=500, burst=3, gap=10, slack=100), on(1, 510), time(600)),
            [1, 2, 1, 520, 0],
        )

    def test_slack_ends_within_a_burst(self):
        self.assertEqual(
            last(group(1, 0, phase=500, burst=4, gap=10, slack=10), on(1, 0), time(530)),
            [3, 1, 1, 2, 2, 1, 520, 0, 2, 1, 530, 0],
        )

    def test_of_sixteen_up_to_the_next_time(self):
        told = last(group(1, 0, burst=16, gap=66, slack=999), on(1, 0), time(1990))
        times = [1000 + place * 66 for place in range(16)]
        # Time 0 is not behind on, the other fifteen of the first burst are.
        self.assertEqual(told, [1 + 16, 1, 1, 15] + [number for at in times for number in (2, 1, at, 0)])

    def test_burst_that_began_before_the_slack(self):
        told = last(group(1, 0, burst=2, gap=999, slack=999), on(1, 0), time(2998))
        self.assertEqual(told, [3, 1, 1, 2, 2, 1, 1999, 0, 2, 1, 2000, 0])

    def test_one_reading_with_a_gap_above_the_period(self):
        self.assertEqual(last(group(1, 0, gap=2 ** 64 - 1), on(1, 0), time(2000)), [2, 1, 1, 1, 2, 1, 2000, 0])


class Order(unittest.TestCase):
    def test_missed_by_groups_then_wanted_by_times(self):
        told = last(
            group(9, 0, phase=100, slack=300), group(2, 0, phase=200, slack=300), group(5, 0, phase=100, slack=300),
            member(30, 9, 0), member(4, 9, 0), member(11, 2, 0), on(9, 0), on(2, 0), on(5, 0), time(2300),
        )
        self.assertEqual(told, [
            6, 1, 2, 2, 1, 5, 2, 1, 9, 2,
            2, 5, 2100, 0, 2, 9, 2100, 2, 4, 30, 2, 2, 2200, 1, 11,
        ])

    def test_of_one_time_by_groups(self):
        told = last(*[group(number, 0) for number in (15, 0, 10, 2)], *[on(number, 0) for number in (2, 15, 10, 0)],
                    time(1000))
        self.assertEqual(told, [4, 2, 0, 1000, 0, 2, 2, 1000, 0, 2, 10, 1000, 0, 2, 15, 1000, 0])

    def test_bursts_of_two_groups_one_within_the_other(self):
        told = last(
            group(1, 0, phase=500, burst=2, gap=20, slack=100), group(0, 0, phase=510, burst=2, gap=20, slack=100),
            on(1, 0), on(0, 0), time(600),
        )
        self.assertEqual(told, [4, 2, 1, 500, 0, 2, 0, 510, 0, 2, 1, 520, 0, 2, 0, 530, 0])

    def test_bursts_longer_than_the_slack_rise_in_time(self):
        told = last(group(1, 0, burst=3, gap=499, slack=999), on(1, 0), time(2500))
        self.assertEqual(told, [4, 1, 1, 4, 2, 1, 1998, 0, 2, 1, 2000, 0, 2, 1, 2499, 0])

    def test_groups_that_missed_none_are_not_told(self):
        told = last(group(1, 0, slack=5), group(2, 0), on(1, 0), on(2, 0), time(1001))
        self.assertEqual(told, [2, 1, 2, 1, 2, 1, 1000, 0])


class LongTimes(unittest.TestCase):
    def test_from_one_to_the_last(self):
        told = last(group(1, 0), on(1, 1), time(LAST_TIME))
        self.assertEqual(told, [1, 1, 1, 4611686018427387])

    def test_some_of_them_wanted(self):
        told = last(group(1, 0, slack=904), on(1, 1), time(LAST_TIME))
        self.assertEqual(told, [2, 1, 1, 4611686018427386, 2, 1, 4611686018427387000, 0])

    def test_bursts(self):
        told = last(group(1, 0, burst=16, gap=66), on(1, 1), time(LAST_TIME))
        # 4611686018427387904: the last burst has its places 0 to 13 (858) up to now; of the first, 0 is before on.
        self.assertEqual(told, [1, 1, 1, 4611686018427387 * 16 + 14 - 1])

    def test_at_the_last_time(self):
        told = last(group(1, 0, phase=904), member(1, 1, 0), on(1, 1), time(LAST_TIME))
        self.assertEqual(told, [2, 1, 1, 4611686018427387, 2, 1, LAST_TIME, 1, 1])

    def test_all_groups(self):
        calls = [group(number, 0, phase=number) for number in range(16)] + [on(number, 1) for number in range(16)]
        told = last(*calls, time(LAST_TIME))
        missed = [4611686018427387] * 2 + [4611686018427388] * 14
        self.assertEqual(told, [16] + [number for g in range(16) for number in (1, g, missed[g])])

    def test_quick(self):
        calls = (group(1, 0, period=DAY), on(1, 0), quick(1, 1, LAST_TIME), time(LAST_TIME))
        self.assertEqual(last(*calls), [1, 1, 1, 4611686018427387])
        self.assertEqual(last(*calls, look(1)), [0, 1, LAST_TIME + 1, LAST_TIME, 0, 4611686018427387])

    def test_quick_in_bursts(self):
        calls = (group(1, 0, period=DAY, burst=16, gap=66), on(1, 0), quick(1, 1, LAST_TIME), time(LAST_TIME))
        # Of the first burst the places 1 to 15 are behind now; of the last those up to 858.
        self.assertEqual(last(*calls), [1, 1, 1, 15 + 4611686018427386 * 16 + 14])

    def test_quick_with_the_last_time_not_quick(self):
        # 2^62 is the quick period's multiple behind the phase 904, but till itself isn't quick any more.
        calls = (group(1, 0, period=DAY, phase=904), on(1, 0), quick(1, 1, LAST_TIME))
        self.assertEqual(last(*calls, time(LAST_TIME)), [1, 1, 1, 4611686018427387])

    def test_quick_half_of_the_way(self):
        half = LAST_TIME // 2
        told = last(group(1, 0, period=7000), on(1, 0), quick(1, 1, half), time(LAST_TIME))
        missed = (half - 1) // 1000 + LAST_TIME // 7000 - (half - 1) // 7000
        self.assertEqual(told, [1, 1, 1, missed])

    def test_all_groups_quick(self):
        calls = []
        for number in range(16):
            calls += [group(number, 0, period=DAY), on(number, 0), quick(number, 0, LAST_TIME)]
        told = last(*calls, time(LAST_TIME))
        self.assertEqual(told, [16] + [part for number in range(16) for part in (1, number, 4611686018427387)])

    def test_nothing_is_left_behind_the_last_time(self):
        told = ask(group(1, 0), on(1, 1), time(LAST_TIME), time(LAST_TIME), on(1, LAST_TIME), away(1, LAST_TIME))
        self.assertEqual(told[3:], [[0], [0], [0]])


if __name__ == "__main__":
    unittest.main()
