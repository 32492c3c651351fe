"""Points 7 to 9: off, quick and time, where nothing is refused."""

import unittest

from helper import LAST_TIME, ask, group, last, look, member, off, on, quick, time


class Off(unittest.TestCase):
    def test_tells_no_more(self):
        self.assertEqual(ask(group(1, 0), on(1, 0), off(1, 10), time(1000), time(9000))[2:], [[0], [0], [0]])

    def test_time_goes_on_first(self):
        told = ask(group(1, 0), member(5, 1, 0), on(1, 0), off(1, 2000), look(1))
        self.assertEqual(told[3:], [[2, 1, 1, 1, 2, 1, 2000, 1, 5], [0, 0, 2001, 1, 1, 1]])

    def test_others_stay_on(self):
        told = last(group(1, 0), group(2, 0), on(1, 0), on(2, 0), off(1, 0), time(1000))
        self.assertEqual(told, [1, 2, 2, 1000, 0])

    def test_of_one_that_is_off(self):
        told = ask(group(1, 5), off(1, 700), look(1), time(1000))
        self.assertEqual(told, [[0], [0], [0, 0, 6, 6, 0, 0], [0]])

    def test_of_one_that_is_off_and_quick(self):
        told = ask(group(1, 5), quick(1, 5, 900), off(1, 700), look(1))
        self.assertEqual(told[2:], [[0], [0, 0, 6, 900, 0, 0]])

    def test_its_channels_stay(self):
        told = last(group(1, 0), member(5, 1, 0), on(1, 0), off(1, 0), on(1, 0), time(1000))
        self.assertEqual(told, [1, 2, 1, 1000, 1, 5])

    def test_first_and_last_group(self):
        for number in (0, 15):
            told = ask(group(number, 0), on(number, 0), off(number, 0), time(1000))
            self.assertEqual(told, [[0]] * 4)


class OffThenOn(unittest.TestCase):
    def test_what_lies_between_is_not_counted(self):
        told = ask(group(1, 0), on(1, 0), off(1, 1500), on(1, 3500), time(4000), look(1))
        self.assertEqual(told[2:], [[1, 1, 1, 1], [0], [1, 2, 1, 4000, 0], [0, 1, 4001, 3501, 1, 1]])

    def test_not_within_the_slack_either(self):
        told = ask(group(1, 0, slack=999), on(1, 0), off(1, 1500), on(1, 2000), time(2500), look(1))
        self.assertEqual(told[2:], [[1, 2, 1, 1000, 0], [0], [0], [0, 1, 2501, 2001, 1, 0]])

    def test_off_within_a_burst(self):
        told = ask(group(1, 0, burst=4, gap=10, slack=99), on(1, 0), time(999), off(1, 1010), on(1, 1020), time(1050))
        self.assertEqual(told[3:], [[2, 2, 1, 1000, 0, 2, 1, 1010, 0], [0], [1, 2, 1, 1030, 0]])

    def test_off_and_on_at_one_time_loses_and_doubles_nothing(self):
        told = ask(group(1, 0), on(1, 0), off(1, 1000), on(1, 1000), time(2000))
        self.assertEqual(told[2:], [[1, 2, 1, 1000, 0], [0], [1, 2, 1, 2000, 0]])

    def test_is_not_quick_any_more(self):
        told = ask(group(1, 0, period=5000), on(1, 0), quick(1, 0, 9000), off(1, 0), on(1, 10), look(1), time(5000))
        self.assertEqual(told[5:], [[0, 1, 11, 11, 0, 0], [1, 2, 1, 5000, 0]])

    def test_on_of_one_that_is_on_stays_quick(self):
        told = ask(group(1, 0, period=5000), on(1, 0), quick(1, 0, 9000), on(1, 10), look(1), time(1000))
        self.assertEqual(told[3:], [[0], [0, 1, 11, 9000, 0, 0], [1, 2, 1, 1000, 0]])


class QuickOfOneThatIsOff(unittest.TestCase):
    def test_it_is_quick_but_off(self):
        told = ask(group(1, 3), quick(1, 10, 5000), look(1), time(4000), look(1))
        self.assertEqual(told[1:], [[0], [0, 0, 4, 5000, 0, 0], [0], [0, 0, 4, 5000, 0, 0]])

    def test_till_it_is_on(self):
        told = ask(group(1, 0, period=5000), quick(1, 0, 9000), on(1, 10), look(1), time(4999), time(5000))
        self.assertEqual(told[2:], [[0], [0, 1, 11, 11, 0, 0], [0], [1, 2, 1, 5000, 0]])

    def test_set_anew_is_not_quick(self):
        told = ask(group(1, 0), quick(1, 0, 9000), group(1, 20), look(1))
        self.assertEqual(told[3], [0, 0, 21, 21, 0, 0])


class QuickOfOneThatIsOn(unittest.TestCase):
    START = (group(1, 0, period=5000, quick=2000, phase=300), member(6, 1, 0), on(1, 0))

    def told(self, *calls):
        return ask(*self.START, *calls)[len(self.START):]

    def test_before_till_quick_from_it_on_not(self):
        told = self.told(quick(1, 0, 4301), *[time(now) for now in (300, 2300, 4300, 5300, 6300, 8300, 10300)])
        self.assertEqual(told, [
            [0], [1, 2, 1, 300, 1, 6], [1, 2, 1, 2300, 1, 6], [1, 2, 1, 4300, 1, 6], [1, 2, 1, 5300, 1, 6],
            [0], [0], [1, 2, 1, 10300, 1, 6],
        ])

    def test_a_reading_at_till_is_not_quick(self):
        self.assertEqual(self.told(quick(1, 2300, 4300), time(4300), time(5300))[1:], [[0], [1, 2, 1, 5300, 1, 6]])

    def test_a_reading_with_the_period_at_till(self):
        self.assertEqual(self.told(quick(1, 4300, 5300), time(5300))[1], [1, 2, 1, 5300, 1, 6])

    def test_a_reading_with_the_period_before_till_is_not_there(self):
        self.assertEqual(self.told(quick(1, 4300, 5301), time(5300), time(10300))[1:], [[0], [1, 2, 1, 10300, 1, 6]])

    def test_counted_from_the_phase_not_from_now(self):
        self.assertEqual(self.told(quick(1, 1234, 9000), time(2300))[1], [1, 2, 1, 2300, 1, 6])

    def test_time_goes_on_first_as_it_was(self):
        # 2300 and 4300 would be quick ones, but it wasn't quick then.
        self.assertEqual(self.told(quick(1, 4300, 9000), time(6300)), [[1, 1, 1, 1], [1, 2, 1, 6300, 1, 6]])

    def test_past_till_in_one_step(self):
        self.assertEqual(self.told(quick(1, 0, 4301), time(10300)), [[0], [2, 1, 1, 4, 2, 1, 10300, 1, 6]])

    def test_past_till_in_several_steps(self):
        told = self.told(quick(1, 0, 4301), time(3000), time(4300), time(4301), time(5000), time(5301), look(1))
        self.assertEqual(told[1:], [
            [1, 1, 1, 2], [1, 2, 1, 4300, 1, 6], [0], [0], [1, 1, 1, 1], [0, 1, 5302, 4301, 1, 3],
        ])

    def test_again_with_a_later_till(self):
        told = self.told(quick(1, 0, 2000), quick(1, 1000, 6400), look(1), time(2300), time(6300), time(10300))
        self.assertEqual(told, [
            [0], [1, 1, 1, 1], [0, 1, 1001, 6400, 0, 1], [1, 2, 1, 2300, 1, 6],
            [2, 1, 1, 1, 2, 1, 6300, 1, 6], [1, 2, 1, 10300, 1, 6],
        ])

    def test_again_with_an_earlier_till(self):
        told = self.told(quick(1, 0, 9000), quick(1, 300, 2300), look(1), time(2300), time(5300))
        self.assertEqual(told, [
            [0], [1, 2, 1, 300, 1, 6], [0, 1, 301, 2300, 1, 0], [0], [1, 2, 1, 5300, 1, 6],
        ])

    def test_again_when_till_is_past(self):
        told = self.told(quick(1, 0, 400), quick(1, 5300, 6301), time(6300), time(8300))
        self.assertEqual(told, [[0], [2, 1, 1, 1, 2, 1, 5300, 1, 6], [1, 2, 1, 6300, 1, 6], [0]])

    def test_just_behind_now(self):
        told = self.told(quick(1, 300, 301), look(1), time(2300), time(5300))
        self.assertEqual(told, [[1, 2, 1, 300, 1, 6], [0, 1, 301, 301, 1, 0], [0], [1, 2, 1, 5300, 1, 6]])

    def test_till_the_last_time(self):
        self.assertEqual(self.told(quick(1, 0, LAST_TIME), time(6300))[1], [2, 1, 1, 3, 2, 1, 6300, 1, 6])

    def test_others_are_not_quick(self):
        told = self.told(group(2, 0, period=5000), on(2, 0), quick(1, 0, 9000), time(3000), look(2))
        self.assertEqual(told[3:], [[1, 1, 1, 2], [0, 1, 3001, 1, 0, 0]])

    def test_first_and_last_group(self):
        for number in (0, 15):
            told = ask(group(number, 0, period=5000), on(number, 0), quick(number, 0, 3000), time(1000), time(5000))
            self.assertEqual(told[2:], [[0], [1, 2, number, 1000, 0], [2, 1, number, 1, 2, number, 5000, 0]])


class MissedOnBothSides(unittest.TestCase):
    def test_missed_before_till_and_from_it_on(self):
        # Quick ones at 1000, 2000, 3000; with the period at 5000 and 10000.
        told = ask(group(1, 0, period=5000), on(1, 0), quick(1, 0, 3001), time(12000), look(1))
        self.assertEqual(told[3:], [[1, 1, 1, 5], [0, 1, 12001, 3001, 0, 5]])

    def test_wanted_on_both_sides(self):
        told = last(group(1, 0, period=1500, slack=999), on(1, 0), quick(1, 0, 4001), time(4500))
        self.assertEqual(told, [3, 1, 1, 3, 2, 1, 4000, 0, 2, 1, 4500, 0])

    def test_missed_quick_wanted_not(self):
        told = last(group(1, 0, period=1500, slack=400), on(1, 0), quick(1, 0, 4001), time(4500))
        self.assertEqual(told, [2, 1, 1, 4, 2, 1, 4500, 0])

    def test_missed_of_both_wanted_of_the_period(self):
        told = last(group(1, 0, period=1500, slack=400), on(1, 0), quick(1, 0, 2500), time(4600))
        self.assertEqual(told, [2, 1, 1, 3, 2, 1, 4500, 0])

    def test_on_amid_the_quick_ones(self):
        told = ask(group(1, 0, period=5000), on(1, 0), time(1500), quick(1, 1500, 3500), time(5001), look(1))
        self.assertEqual(told[2:], [[0], [0], [1, 1, 1, 3], [0, 1, 5002, 3500, 0, 3]])


class TillWithinABurst(unittest.TestCase):
    def wanted(self, till, now, **settings):
        told = last(group(1, 0, burst=4, gap=10, slack=99, **settings), on(1, 0), quick(1, 0, till), time(now - 60),
                    time(now))
        self.assertEqual(told[1::4], [2] * told[0])
        return told[3::4]

    def test_of_a_quick_one_alone(self):
        # At 2000 there's no burst with the period: what's left of the quick one from till on isn't there.
        self.assertEqual(self.wanted(2000, 2050, period=5000), [])
        self.assertEqual(self.wanted(2001, 2050, period=5000), [2000])
        self.assertEqual(self.wanted(2020, 2050, period=5000), [2000, 2010])
        self.assertEqual(self.wanted(2021, 2050, period=5000), [2000, 2010, 2020])
        self.assertEqual(self.wanted(2031, 2050, period=5000), [2000, 2010, 2020, 2030])

    def test_of_one_with_the_period_alone(self):
        # At 4500 there's no quick burst: what was before till of the one with the period isn't there.
        self.assertEqual(self.wanted(4500, 4550, period=1500), [4500, 4510, 4520, 4530])
        self.assertEqual(self.wanted(4501, 4550, period=1500), [4510, 4520, 4530])
        self.assertEqual(self.wanted(4520, 4550, period=1500), [4520, 4530])
        self.assertEqual(self.wanted(4531, 4550, period=1500), [])

    def test_of_both(self):
        for till in (3000, 3001, 3015, 3030, 3031):
            self.assertEqual(self.wanted(till, 3050, period=1500), [3000, 3010, 3020, 3030], till)

    def test_missed(self):
        calls = (group(1, 0, period=5000, burst=4, gap=10), on(1, 0), time(1500))
        self.assertEqual(last(*calls, quick(1, 1500, 2011), time(2500)), [1, 1, 1, 2])
        self.assertEqual(last(*calls, quick(1, 1500, 2010), time(2500)), [1, 1, 1, 1])


class Time(unittest.TestCase):
    def test_tells_what_is_wanted(self):
        told = ask(group(1, 0), member(9, 1, 0), on(1, 0), time(999), time(1000), time(1000), time(2500), time(4000))
        self.assertEqual(told[3:], [[0], [1, 2, 1, 1000, 1, 9], [0], [1, 1, 1, 1], [2, 1, 1, 1, 2, 1, 4000, 1, 9]])

    def test_without_groups(self):
        self.assertEqual(ask(time(0), time(5), time(LAST_TIME), time(LAST_TIME)), [[0]] * 4)

    def test_changes_nothing_else(self):
        told = ask(group(1, 4), quick(1, 4, 70), time(50), look(1))
        self.assertEqual(told[3], [0, 0, 5, 70, 0, 0])


if __name__ == "__main__":
    unittest.main()
