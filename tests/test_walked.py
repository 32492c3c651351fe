"""Lists of many calls by a fixed seed, each answer held against a plan that walks reading after reading."""

import random
import unittest

from helper import (
    DAY, LAST_TIME, SlowPlan, alone, ask, away, begin, group, look, member, of, off, on, quick, time, upcoming,
)

STEPS = (-1, 0, 0, 1, 5, 60, 333, 1000, 1700)
GROUPS = (0, 1, 2, 15)


def one_group(source, now):
    period = source.choice((1000, 1001, 1500, 4000))
    fast = source.choice((1000, (1000 + period) // 2, period))
    burst = source.choice((1, 2, 3, 16))
    gap = source.choice((1, 60, (fast - 1) // max(1, burst - 1)))
    slack = source.choice((0, 1, 500, 998, fast - 1))
    phase = source.choice((0, 1, 700, 5000))
    call = group(source.choice(GROUPS), now, period, fast, phase, burst, gap, slack)
    if source.randrange(8) == 0:
        call[source.randrange(1, 8)] = source.choice((0, 16, 17, 999, DAY, DAY + 1))
    return call


def one_till(source, now):
    return max(0, now + source.choice((-1, 0, 1, 2, 10, 500, 1000, 1001, 2500, 6000, LAST_TIME - now, LAST_TIME)))


def one_call(source, now):
    number = source.choice(GROUPS * 5 + (16,))
    channel = source.choice((0, 1, 2, 40, 63, 64))
    choices = (
        (12, one_group(source, now)), (2, away(number, now)), (12, member(channel, number, now)),
        (6, alone(channel, now)), (18, on(number, now)), (6, off(number, now)),
        (16, quick(number, now, one_till(source, now))), (16, time(now)), (8, upcoming()), (12, look(number)),
        (6, of(number)), (1, begin()),
    )
    return source.choices([call for _, call in choices], [weight for weight, _ in choices])[0]


def one_list(source, length):
    now = 0
    calls = []
    for _ in range(length):
        now = max(0, now + source.choice(STEPS))
        calls.append(one_call(source, now))
        if calls[-1] == begin():
            now = 0
    return calls


class AgainstTheSlowPlan(unittest.TestCase):
    def compare(self, calls):
        slow = SlowPlan()
        for place, (call, told) in enumerate(zip(calls, ask(*calls), strict=True)):
            self.assertEqual(told, slow.answer(call), (place, calls[:place + 1]))

    def test_many(self):
        source = random.Random(20)
        for _ in range(200):
            self.compare(one_list(source, 60))

    def test_all_twelve_kinds_are_there(self):
        source = random.Random(20)
        self.assertEqual({call[0] for call in one_list(source, 300)}, set(range(1, 13)))

    def test_three_hundred_calls(self):
        source = random.Random(21)
        for _ in range(3):
            self.compare(one_list(source, 300))

    def test_each_till_and_each_now(self):
        # At 2000 there's a quick burst alone, at 3000 one of both kinds, at 4500 one with the period alone.
        for base in (2000, 3000, 4500):
            for till in range(base - 6, base + 50, 3):
                for now in range(base - 10, base + 90, 5):
                    self.compare([
                        group(1, 0, period=1500, burst=3, gap=20, slack=35), on(1, 0), quick(1, 900, till),
                        upcoming(), time(now), look(1), upcoming(), time(now + 30), look(1), upcoming(),
                        time(8000), look(1),
                    ])


if __name__ == "__main__":
    unittest.main()
