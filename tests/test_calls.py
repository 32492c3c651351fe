"""Points 1 to 6: what each call does, where nothing is refused."""

import unittest

from helper import alone, ask, away, begin, group, last, member, on, time


class Begin(unittest.TestCase):
    def test_answers_zero(self):
        self.assertEqual(ask(begin()), [[0]])

    def test_groups_are_gone(self):
        self.assertEqual(ask(group(3, 0), begin(), on(3, 0)), [[0], [0], [-2]])

    def test_time_is_zero_again(self):
        self.assertEqual(ask(time(5000), begin(), time(0), group(1, 0)), [[0], [0], [0], [0]])

    def test_what_was_on_is_not_told_any_more(self):
        self.assertEqual(ask(group(1, 0), on(1, 0), begin(), time(1000))[2:], [[0], [0]])

    def test_channels_are_of_none(self):
        told = last(group(1, 0), member(4, 1, 0), begin(), group(1, 0), on(1, 0), time(1000))
        self.assertEqual(told, [1, 2, 1, 1000, 0])


class SetGroup(unittest.TestCase):
    def test_is_off(self):
        self.assertEqual(ask(group(1, 0), time(1000), time(9000)), [[0], [0], [0]])

    def test_set_anew_is_off(self):
        self.assertEqual(ask(group(1, 0), on(1, 0), group(1, 500), time(1000))[2:], [[0], [0]])

    def test_set_anew_time_goes_on_first_as_it_was_set(self):
        told = last(group(1, 0), member(7, 1, 0), on(1, 0), group(1, 2000, period=3000))
        self.assertEqual(told, [2, 1, 1, 1, 2, 1, 2000, 1, 7])

    def test_set_anew_reads_as_set_anew(self):
        told = last(group(1, 0), on(1, 0), group(1, 500, period=2000, phase=700), on(1, 500), time(2700))
        self.assertEqual(told, [2, 1, 1, 1, 2, 1, 2700, 0])

    def test_its_channels_stay(self):
        told = last(group(1, 0), member(9, 1, 0), member(2, 1, 0), group(1, 0), on(1, 0), time(1000))
        self.assertEqual(told, [1, 2, 1, 1000, 2, 2, 9])

    def test_others_stay_on(self):
        told = last(group(1, 0), on(1, 0), group(2, 0), group(2, 10), time(1000))
        self.assertEqual(told, [1, 2, 1, 1000, 0])

    def test_first_setting_tells_of_the_others(self):
        self.assertEqual(last(group(1, 0), on(1, 0), group(2, 1000)), [1, 2, 1, 1000, 0])


class Away(unittest.TestCase):
    def test_is_gone(self):
        told = ask(group(1, 0), away(1, 0), on(1, 0), away(1, 0), member(0, 1, 0))
        self.assertEqual(told, [[0], [0], [-2], [-2], [-2]])

    def test_tells_no_more(self):
        self.assertEqual(ask(group(1, 0), on(1, 0), away(1, 10), time(1000))[2:], [[0], [0]])

    def test_time_goes_on_first(self):
        told = last(group(1, 0), member(5, 1, 0), on(1, 0), away(1, 2000))
        self.assertEqual(told, [2, 1, 1, 1, 2, 1, 2000, 1, 5])

    def test_its_channels_are_of_none(self):
        told = last(group(1, 0), member(5, 1, 0), member(6, 1, 0), away(1, 0), group(1, 0), on(1, 0), time(1000))
        self.assertEqual(told, [1, 2, 1, 1000, 0])

    def test_channels_of_others_stay(self):
        told = last(
            group(1, 0), group(2, 0), member(5, 1, 0), member(6, 2, 0), away(1, 0), on(2, 0), time(1000)
        )
        self.assertEqual(told, [1, 2, 2, 1000, 1, 6])

    def test_a_new_one_is_off(self):
        self.assertEqual(last(group(1, 0), on(1, 0), away(1, 0), group(1, 0), time(1000)), [0])


class Member(unittest.TestCase):
    def test_first_and_last_channel_and_group(self):
        told = last(
            group(0, 0), group(15, 0), member(63, 0, 0), member(0, 15, 0), on(15, 0), on(0, 0), alone(1, 1000)
        )
        self.assertEqual(told, [2, 2, 0, 1000, 1, 63, 2, 15, 1000, 1, 0])

    def test_is_of_no_other(self):
        told = last(
            group(1, 0), group(2, 0), member(8, 1, 0), member(8, 2, 0), on(1, 0), on(2, 0), time(1000)
        )
        self.assertEqual(told, [2, 2, 1, 1000, 0, 2, 2, 1000, 1, 8])

    def test_twice_is_once(self):
        told = last(group(1, 0), member(8, 1, 0), member(8, 1, 0), on(1, 0), time(1000))
        self.assertEqual(told, [1, 2, 1, 1000, 1, 8])

    def test_time_goes_on_first(self):
        told = ask(group(1, 0), on(1, 0), member(8, 1, 1000), time(2000))
        self.assertEqual(told[2:], [[1, 2, 1, 1000, 0], [1, 2, 1, 2000, 1, 8]])

    def test_all_channels_rising(self):
        calls = [group(1, 0)] + [member((channel * 37) % 64, 1, 0) for channel in range(64)]
        told = last(*calls, on(1, 0), group(2, 1000))
        self.assertEqual(told, [1, 2, 1, 1000, 64] + list(range(64)))


class Alone(unittest.TestCase):
    def test_is_of_none(self):
        told = last(group(1, 0), member(8, 1, 0), member(9, 1, 0), alone(8, 0), on(1, 0), time(1000))
        self.assertEqual(told, [1, 2, 1, 1000, 1, 9])

    def test_one_that_was_of_none(self):
        self.assertEqual(ask(alone(0, 0), alone(63, 0)), [[0], [0]])

    def test_time_goes_on_first(self):
        told = ask(group(1, 0), member(8, 1, 0), on(1, 0), alone(8, 1000), time(2000))
        self.assertEqual(told[3:], [[1, 2, 1, 1000, 1, 8], [1, 2, 1, 2000, 0]])


class On(unittest.TestCase):
    def test_is_on(self):
        self.assertEqual(last(group(1, 0), on(1, 0), time(1000)), [1, 2, 1, 1000, 0])

    def test_alone_of_the_groups(self):
        self.assertEqual(last(group(1, 0), group(2, 0), on(2, 0), time(1000)), [1, 2, 2, 1000, 0])

    def test_counts_from_just_behind_the_time_it_was_told(self):
        self.assertEqual(ask(group(1, 0), on(1, 1000), time(1000), time(1001))[1:], [[0], [0], [0]])
        self.assertEqual(last(group(1, 0), on(1, 999), time(1000)), [1, 2, 1, 1000, 0])
        self.assertEqual(last(group(1, 0, slack=999), on(1, 1000), time(1500)), [0])
        self.assertEqual(last(group(1, 0, slack=999), on(1, 999), time(1500)), [1, 2, 1, 1000, 0])

    def test_reading_at_time_zero_never_counts(self):
        self.assertEqual(last(group(1, 0, slack=999), on(1, 0), time(500)), [0])

    def test_what_went_by_while_off_does_not_count(self):
        self.assertEqual(ask(group(1, 0), on(1, 5500), time(6000))[1:], [[0], [1, 2, 1, 6000, 0]])

    def test_on_twice_goes_on_as_before(self):
        told = ask(group(1, 0, slack=10), on(1, 0), on(1, 1005), on(1, 1005), time(3000))
        self.assertEqual(told[2:], [[1, 2, 1, 1000, 0], [0], [2, 1, 1, 1, 2, 1, 3000, 0]])

    def test_set_anew_and_on_again_counts_from_then(self):
        told = last(group(1, 0, slack=999), on(1, 0), group(1, 1500, slack=999), on(1, 2000), time(2500))
        self.assertEqual(told, [0])


if __name__ == "__main__":
    unittest.main()
