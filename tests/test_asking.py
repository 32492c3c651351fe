"""Points 10 to 12: next, look and of."""

import unittest

from helper import (
    DAY, LAST_TIME, MOST, alone, ask, away, begin, group, last, look, member, of, off, on, quick, time, upcoming,
)


class Next(unittest.TestCase):
    def test_none_on(self):
        self.assertEqual(ask(upcoming(), group(1, 0), upcoming()), [[-2], [0], [-2]])
        self.assertEqual(last(group(1, 0), on(1, 0), off(1, 0), upcoming()), [-2])
        self.assertEqual(last(group(1, 0), on(1, 0), away(1, 0), upcoming()), [-2])
        self.assertEqual(last(group(1, 0), on(1, 0), group(1, 0), upcoming()), [-2])
        self.assertEqual(last(group(1, 0), on(1, 0), begin(), upcoming()), [-2])
        self.assertEqual(last(group(1, 0), quick(1, 0, 9000), upcoming()), [-2])

    def test_one_on(self):
        self.assertEqual(last(group(1, 0, phase=300), on(1, 500), upcoming()), [0, 1300])

    def test_several_on(self):
        calls = [group(0, 0, phase=900), on(0, 0), group(7, 0, phase=400), on(7, 0), group(15, 0, phase=600), on(15, 0)]
        told = [ask(*calls, time(now), upcoming())[-1] for now in (0, 400, 600, 900, 1400)]
        self.assertEqual(told, [[0, 400], [0, 600], [0, 900], [0, 1400], [0, 1600]])

    def test_those_that_are_off_do_not_matter(self):
        calls = (group(1, 0, phase=100), group(2, 0, phase=700), on(1, 0), on(2, 0), off(1, 0))
        self.assertEqual(last(*calls, upcoming()), [0, 700])

    def test_right_before_at_and_behind_a_reading(self):
        told = [last(group(1, 0), on(1, 0), time(now), upcoming()) for now in (999, 1000, 1001)]
        self.assertEqual(told, [[0, 1000], [0, 2000], [0, 2000]])

    def test_a_reading_at_the_time_it_was_told_on_does_not_count(self):
        self.assertEqual(last(group(1, 0), on(1, 0), upcoming()), [0, 1000])
        self.assertEqual(last(group(1, 0), on(1, 3000), upcoming()), [0, 4000])

    def test_within_a_burst(self):
        calls = (group(1, 0, phase=500, burst=3, gap=10), on(1, 0))
        told = [last(*calls, time(now), upcoming()) for now in (499, 500, 505, 510, 519, 520)]
        self.assertEqual(told, [[0, 500], [0, 510], [0, 510], [0, 520], [0, 520], [0, 1500]])

    def test_before_the_phase(self):
        self.assertEqual(last(group(1, 0, phase=DAY - 1), on(1, 0), upcoming()), [0, DAY - 1])
        self.assertEqual(last(group(1, 0, phase=DAY - 1), on(1, 0), quick(1, 0, DAY), upcoming()), [0, DAY - 1])
        self.assertEqual(last(group(1, 0, phase=5000), on(1, 0), time(4999), upcoming()), [0, 5000])

    def test_before_the_phase_with_till_before_it(self):
        self.assertEqual(last(group(1, 0, phase=5000), on(1, 0), quick(1, 0, 70), upcoming()), [0, 5000])

    def test_a_quick_reading(self):
        calls = (group(1, 0, period=5000), on(1, 0), quick(1, 0, 3000))
        told = [last(*calls, time(now), upcoming()) for now in (0, 1000, 1999)]
        self.assertEqual(told, [[0, 1000], [0, 2000], [0, 2000]])

    def test_none_before_till_any_more(self):
        calls = (group(1, 0, period=5000), on(1, 0), quick(1, 0, 3000))
        told = [last(*calls, time(now), upcoming()) for now in (2000, 2999, 3000, 4999, 5000)]
        self.assertEqual(told, [[0, 5000], [0, 5000], [0, 5000], [0, 5000], [0, 10000]])

    def test_just_before_till(self):
        self.assertEqual(last(group(1, 0, period=5000), on(1, 0), quick(1, 2000, 3001), upcoming()), [0, 3000])

    def test_with_the_period_before_till_is_not_next(self):
        self.assertEqual(last(group(1, 0, period=1500), on(1, 0), quick(1, 4000, 4501), upcoming()), [0, 6000])
        self.assertEqual(last(group(1, 0, period=1500), on(1, 0), quick(1, 4000, 4500), upcoming()), [0, 4500])

    def test_till_within_a_burst(self):
        calls = (group(1, 0, period=1500, burst=3, gap=20), on(1, 0))
        self.assertEqual(last(*calls, quick(1, 4100, 4510), upcoming()), [0, 4520])
        self.assertEqual(last(*calls, quick(1, 2000, 2021), upcoming()), [0, 2020])
        self.assertEqual(last(*calls, quick(1, 2000, 2020), upcoming()), [0, 3000])

    def test_one_quick_one_not(self):
        calls = (group(1, 0, period=5000), group(2, 0, period=1500), on(1, 0), on(2, 0), quick(1, 0, 1500))
        told = [last(*calls, time(now), upcoming()) for now in (0, 1000, 1500)]
        self.assertEqual(told, [[0, 1000], [0, 1500], [0, 3000]])

    def test_changes_nothing(self):
        calls = (group(1, 0, period=5000, slack=100), on(1, 0), quick(1, 0, 3000))
        behind = (look(1), time(2050), look(1))
        expected = ask(*calls, *behind)[3:]
        told = ask(*calls, upcoming(), upcoming(), *behind)
        self.assertEqual(told[3:], [[0, 1000], [0, 1000]] + expected)

    def test_long_behind(self):
        calls = (group(1, 0, period=DAY), on(1, 0), quick(1, 1, LAST_TIME))
        self.assertEqual(last(*calls, time(LAST_TIME - 1000), upcoming()), [0, LAST_TIME - 904])
        # None is quick any more, and the next with the period lies beyond the last time that a call may tell.
        self.assertEqual(last(*calls, time(LAST_TIME - 904), upcoming()), [0, (LAST_TIME // DAY + 1) * DAY])
        self.assertEqual(last(*calls, time(LAST_TIME), upcoming()), [0, (LAST_TIME // DAY + 1) * DAY])


class Look(unittest.TestCase):
    def test_behind_group(self):
        self.assertEqual(last(group(1, 70), look(1)), [0, 0, 71, 71, 0, 0])
        self.assertEqual(last(group(1, 0), look(1)), [0, 0, 1, 1, 0, 0])

    def test_behind_on(self):
        self.assertEqual(last(group(1, 70), on(1, 90), look(1)), [0, 1, 91, 91, 0, 0])

    def test_behind_on_of_one_that_is_on(self):
        self.assertEqual(last(group(1, 70), on(1, 90), on(1, 99), look(1)), [0, 1, 100, 91, 0, 0])

    def test_behind_off(self):
        calls = (group(1, 70), on(1, 90), off(1, 99), look(1))
        self.assertEqual(last(*calls), [0, 0, 100, 91, 0, 0])
        self.assertEqual(last(*calls, time(300), off(1, 400), look(1)), [0, 0, 100, 91, 0, 0])

    def test_behind_off_of_one_that_is_quick(self):
        self.assertEqual(last(group(1, 70), on(1, 90), quick(1, 95, 800), off(1, 99), look(1)), [0, 0, 100, 800, 0, 0])

    def test_behind_quick(self):
        self.assertEqual(last(group(1, 70), on(1, 90), quick(1, 95, 800), look(1)), [0, 1, 96, 800, 0, 0])
        self.assertEqual(last(group(1, 70), quick(1, 95, 800), look(1)), [0, 0, 71, 800, 0, 0])
        self.assertEqual(last(group(1, 70), quick(1, 95, LAST_TIME), look(1)), [0, 0, 71, LAST_TIME, 0, 0])

    def test_behind_quick_again(self):
        calls = (group(1, 70), on(1, 90), quick(1, 95, 800))
        self.assertEqual(last(*calls, quick(1, 96, 900), look(1)), [0, 1, 97, 900, 0, 0])
        self.assertEqual(last(*calls, quick(1, 96, 97), look(1)), [0, 1, 97, 97, 0, 0])

    def test_till_that_is_past_stays(self):
        told = last(group(1, 70), on(1, 90), quick(1, 95, 800), time(900), look(1))
        self.assertEqual(told, [0, 1, 901, 800, 0, 0])

    def test_behind_calls_about_others(self):
        calls = (group(1, 70), group(2, 70), group(3, 70), on(1, 90), quick(3, 90, 600))
        others = (
            group(4, 120), away(2, 120), member(5, 2, 120), alone(5, 120), on(2, 120), off(2, 120),
            quick(2, 120, 400), time(120),
        )
        for call in others:
            told = ask(*calls, call, look(1), look(3))[-2:]
            self.assertEqual(told, [[0, 1, 121, 91, 0, 0], [0, 0, 71, 600, 0, 0]], call)

    def test_behind_member_and_alone_of_its_own(self):
        told = ask(group(1, 70), on(1, 90), member(5, 1, 100), look(1), alone(5, 110), look(1))
        self.assertEqual(told[3::2], [[0, 1, 101, 91, 0, 0], [0, 1, 111, 91, 0, 0]])

    def test_behind_away_and_begin(self):
        self.assertEqual(last(group(1, 0), away(1, 0), look(1)), [-2])
        self.assertEqual(last(group(1, 0), begin(), look(1)), [-2])
        self.assertEqual(last(group(1, 9), on(1, 9), away(1, 9), group(1, 12), look(1)), [0, 0, 13, 13, 0, 0])

    def test_behind_time_to_the_last(self):
        told = last(group(1, 0, phase=904), on(1, 0), time(LAST_TIME), look(1))
        self.assertEqual(told, [0, 1, LAST_TIME + 1, 1, 1, 4611686018427387])
        self.assertEqual(last(group(1, LAST_TIME), look(1)), [0, 0, LAST_TIME + 1, LAST_TIME + 1, 0, 0])

    def test_wanted_and_missed_in_all(self):
        calls = (group(1, 0, burst=2, gap=10, slack=5), on(1, 0), time(1015), look(1), time(3000), look(1))
        # 10 and 1000 are missed, 1010 is wanted; then 2000 and 2010 are missed, 3000 is wanted.
        self.assertEqual(ask(*calls)[2:], [
            [2, 1, 1, 2, 2, 1, 1010, 0], [0, 1, 1016, 1, 1, 2],
            [2, 1, 1, 2, 2, 1, 3000, 0], [0, 1, 3001, 1, 2, 4],
        ])

    def test_readings_are_counted_not_channels(self):
        told = last(group(1, 0), member(3, 1, 0), member(4, 1, 0), on(1, 0), time(1000), time(3000), look(1))
        self.assertEqual(told, [0, 1, 3001, 1, 2, 1])

    def test_counted_by_each_call_that_lets_time_go_on(self):
        told = last(
            group(1, 0), on(1, 0), group(2, 1000), member(0, 2, 2000), alone(0, 3000), on(2, 4000), off(2, 5000),
            quick(1, 6000, 6001), time(7000), away(2, 8001), look(1),
        )
        self.assertEqual(told, [0, 1, 8002, 6001, 7, 1])

    def test_off_and_on_again_they_stay(self):
        told = last(group(1, 0), on(1, 0), time(1000), off(1, 2500), on(1, 3500), time(4000), look(1))
        self.assertEqual(told, [0, 1, 4001, 3501, 2, 1])

    def test_set_anew_from_nothing(self):
        told = ask(group(1, 0), on(1, 0), time(1000), time(2500), look(1), group(1, 3000), look(1), on(1, 3000),
                   time(4000), look(1))
        self.assertEqual(told[4::2], [[0, 1, 2501, 1, 1, 1], [0, 0, 3001, 3001, 0, 0], [1, 2, 1, 4000, 0]])
        self.assertEqual(told[9], [0, 1, 4001, 3001, 1, 0])

    def test_groups_by_themselves(self):
        told = ask(group(0, 0), group(15, 5), on(0, 7), time(1000), look(0), look(15))
        self.assertEqual(told[3:], [[1, 2, 0, 1000, 0], [0, 1, 1001, 8, 1, 0], [0, 0, 6, 6, 0, 0]])

    def test_no_such_group(self):
        for number in (0, 1, 15, 16, 17, 63, LAST_TIME, MOST):
            self.assertEqual(ask(look(number)), [[-2]], number)
        self.assertEqual(ask(*[group(number, 0) for number in range(16)], look(16), look(MOST))[16:], [[-2], [-2]])

    def test_changes_nothing(self):
        calls = (group(1, 0, slack=50), on(1, 0), quick(1, 0, 900))
        expected = ask(*calls, time(1020), time(1020))
        told = ask(*calls, look(1), look(1), time(1020), look(2), time(1020))
        self.assertEqual(told[:3] + [told[5], told[7]], expected)
        self.assertEqual(told[3], told[4])


class Of(unittest.TestCase):
    def test_none(self):
        self.assertEqual(last(group(1, 0), of(1)), [0])

    def test_rising(self):
        told = last(group(1, 0), member(63, 1, 0), member(0, 1, 0), member(7, 1, 0), of(1))
        self.assertEqual(told, [3, 0, 7, 63])

    def test_all(self):
        calls = [group(1, 0)] + [member((channel * 37) % 64, 1, 0) for channel in range(64)]
        self.assertEqual(last(*calls, of(1)), [64] + list(range(64)))

    def test_of_no_other(self):
        told = ask(group(0, 0), group(15, 0), member(4, 0, 0), of(0), of(15), member(4, 15, 0), of(0), of(15))
        self.assertEqual(told[3:5] + told[6:], [[1, 4], [0], [0], [1, 4]])

    def test_behind_alone(self):
        self.assertEqual(last(group(1, 0), member(4, 1, 0), member(5, 1, 0), alone(4, 0), of(1)), [1, 5])

    def test_behind_group_away_and_begin(self):
        calls = (group(1, 0), member(4, 1, 0))
        self.assertEqual(last(*calls, group(1, 0), of(1)), [1, 4])
        self.assertEqual(last(*calls, away(1, 0), of(1)), [-2])
        self.assertEqual(last(*calls, away(1, 0), group(1, 0), of(1)), [0])
        self.assertEqual(last(*calls, begin(), of(1)), [-2])
        self.assertEqual(last(*calls, begin(), group(1, 0), of(1)), [0])

    def test_on_off_quick_and_time_do_not_matter(self):
        calls = (group(1, 0), member(4, 1, 0))
        for call in (on(1, 5), off(1, 5), quick(1, 5, 6), time(5), upcoming(), look(1), of(1)):
            self.assertEqual(last(*calls, call, of(1)), [1, 4], call)

    def test_no_such_group(self):
        for number in (0, 1, 15, 16, 17, 63, LAST_TIME, MOST):
            self.assertEqual(ask(of(number)), [[-2]], number)
        self.assertEqual(ask(*[group(number, 0) for number in range(16)], of(16), of(MOST))[16:], [[-2], [-2]])

    def test_changes_nothing(self):
        told = ask(group(1, 0), member(4, 1, 0), on(1, 0), of(1), of(1), time(1000))
        self.assertEqual(told[3:], [[1, 4], [1, 4], [1, 2, 1, 1000, 1, 4]])


if __name__ == "__main__":
    unittest.main()
