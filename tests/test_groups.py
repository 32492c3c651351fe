"""A group by itself: what's kept of it, and its readings before and from the time till which it's quick."""

import unittest

from readtimes.groups import Group, count_readings, reading_times


class Kept(unittest.TestCase):
    def test_nothing_wanted_or_missed_yet(self):
        group = Group(1000, 1000, 0, 1, 1, 0, 70)
        self.assertEqual((group.wanted_in_all, group.missed_in_all, group.active), (0, 0, False))

    def test_set_counts_from_now_and_1(self):
        group = Group(1000, 1000, 0, 1, 1, 0, 70)
        self.assertEqual((group.since, group.till), (71, 71))

    def test_on_counts_from_now_and_1_and_is_not_quick(self):
        group = Group(1000, 1000, 0, 1, 1, 0, 70)
        group.till = 5000
        group.turn_on(90)
        self.assertEqual((group.active, group.since, group.till), (True, 91, 91))

    def test_on_of_one_that_is_on_changes_nothing(self):
        group = Group(1000, 1000, 0, 1, 1, 0, 70)
        group.turn_on(90)
        group.till = 5000
        group.turn_on(95)
        self.assertEqual((group.active, group.since, group.till), (True, 91, 5000))

    def test_wanted_and_missed_in_all(self):
        group = Group(1000, 1000, 0, 2, 10, 500, 0)
        group.turn_on(0)
        self.assertEqual((group.take_missed(2000), group.take_wanted(2000)), (3, [2000]))
        group.since = 2001
        self.assertEqual((group.take_missed(2400), group.take_wanted(2400)), (0, [2010]))
        self.assertEqual((group.wanted_in_all, group.missed_in_all), (2, 3))


class Readings(unittest.TestCase):
    def readings(self, till, first, last):
        group = Group(5000, 2000, 300, 2, 40, 0, 0)
        group.till = till
        times = sorted(reading_times(group, first, last))
        self.assertEqual(count_readings(group, first, last), len(times))
        return times

    def test_not_quick(self):
        self.assertEqual(self.readings(0, 0, 10339), [300, 340, 5300, 5340, 10300])

    def test_quick(self):
        self.assertEqual(self.readings(99999, 0, 4340), [300, 340, 2300, 2340, 4300, 4340])

    def test_before_till_quick_from_it_on_not(self):
        self.assertEqual(self.readings(4301, 2301, 10300), [2340, 4300, 5300, 5340, 10300])

    def test_till_itself_is_not_quick(self):
        self.assertEqual(self.readings(4300, 2301, 5300), [2340, 5300])
        self.assertEqual(self.readings(5300, 4300, 5340), [4300, 4340, 5300, 5340])

    def test_till_within_a_burst_of_both(self):
        self.assertEqual(self.readings(10310, 10000, 10400), [10300, 10340])

    def test_none(self):
        self.assertEqual(self.readings(0, 341, 5299), [])
        self.assertEqual(self.readings(0, 6000, 400), [])
        self.assertEqual(self.readings(5000, 6000, 400), [])


if __name__ == "__main__":
    unittest.main()
