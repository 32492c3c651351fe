"""Calls by name, answers split call by call, and a slow plan to compare with."""

from readtimes.plan import answers

DAY = 86400000000
LAST_TIME = 2 ** 62
MOST = 2 ** 64 - 1


def begin():
    return [1]


def group(number, now, period=1000, quick=1000, phase=0, burst=1, gap=1, slack=0):
    return [2, number, period, quick, phase, burst, gap, slack, now]


def away(number, now):
    return [3, number, now]


def member(channel, number, now):
    return [4, channel, number, now]


def alone(channel, now):
    return [5, channel, now]


def on(number, now):
    return [6, number, now]


def off(number, now):
    return [7, number, now]


def quick(number, now, till):
    return [8, number, now, till]


def time(now):
    return [9, now]


def upcoming():
    """The call next."""
    return [10]


def look(number):
    return [11, number]


def of(number):
    return [12, number]


def split(told):
    """The answers, one list a call."""
    parts = []
    place = 0
    while place < len(told):
        length = told[place]
        part = told[place + 1:place + 1 + length]
        assert len(part) == length, "an answer is shorter than it tells"
        parts.append(part)
        place += 1 + length
    return parts


def ask(*calls):
    """One answer a call."""
    parts = split(answers([number for call in calls for number in call]))
    assert len(parts) == len(calls), "not one answer a call"
    return parts


def last(*calls):
    return ask(*calls)[-1]


class SlowGroup:
    def __init__(self, settings, now):
        self.period, self.quick, self.phase, self.burst, self.gap, self.slack = settings
        self.on = False
        self.since = self.till = now + 1
        self.wanted = self.missed = 0

    def readings(self, end):
        """Each reading up to end, rising, walked from the phase on."""
        times = []
        for period, is_quick in ((self.quick, True), (self.period, False)):
            start = self.phase
            while start <= end:
                for at in [start + place * self.gap for place in range(self.burst)]:
                    if at <= end and (at < self.till) == is_quick:
                        times.append(at)
                start += period
        return sorted(times)

    def counting(self, end):
        return [at for at in self.readings(end) if at >= self.since]

    def upcoming(self):
        end = self.since
        while not self.counting(end):
            end += 700
        return self.counting(end)[0]


class SlowPlan:
    """Walks reading after reading; only for times that are small."""

    def __init__(self):
        self.begin()

    def begin(self):
        self.now = 0
        self.groups = {}
        self.owner = {}

    def answer(self, call):
        kind, numbers = call[0], call[1:]
        if kind == 1:
            self.begin()
            return [0]
        if kind >= 10:
            return self.tell(kind, numbers)
        now = numbers[1] if kind == 8 else numbers[-1]
        refusal = self.refusal(kind, numbers, now)
        if refusal:
            return [refusal]
        told = self.go_on(now)
        self.change(kind, numbers, now)
        return told

    def refusal(self, kind, numbers, now):
        ranges = [now <= LAST_TIME]
        if kind in (2, 3, 6, 7, 8):
            ranges.append(numbers[0] < 16)
        if kind in (4, 5):
            ranges.append(numbers[0] < 64)
        if kind == 4:
            ranges.append(numbers[1] < 16)
        if kind == 8:
            ranges.append(now < numbers[2] <= LAST_TIME)
        if kind == 2:
            period, fast, phase, burst, gap, slack = numbers[1:7]
            ranges += [1000 <= period <= DAY, 1000 <= fast <= period, phase < DAY, 1 <= burst <= 16]
            ranges += [gap >= 1, sum([gap] * (min(burst, 17) - 1)) < fast, slack < fast]
        if not all(ranges):
            return -1
        if kind in (3, 4, 6, 7, 8) and numbers[1 if kind == 4 else 0] not in self.groups:
            return -2
        return -4 if now < self.now else 0

    def change(self, kind, numbers, now):
        if kind == 2:
            self.groups[numbers[0]] = SlowGroup(numbers[1:7], now)
        if kind == 3:
            del self.groups[numbers[0]]
            self.owner = {c: g for c, g in self.owner.items() if g != numbers[0]}
        if kind == 4:
            self.owner[numbers[0]] = numbers[1]
        if kind == 5:
            self.owner.pop(numbers[0], None)
        if kind == 6 and not self.groups[numbers[0]].on:
            self.groups[numbers[0]].on = True
            self.groups[numbers[0]].since = self.groups[numbers[0]].till = now + 1
        if kind == 7:
            self.groups[numbers[0]].on = False
        if kind == 8:
            self.groups[numbers[0]].till = numbers[2]

    def tell(self, kind, numbers):
        if kind == 10:
            times = [held.upcoming() for held in self.groups.values() if held.on]
            return [0, min(times)] if times else [-2]
        if numbers[0] not in self.groups:
            return [-2]
        held = self.groups[numbers[0]]
        if kind == 11:
            return [0, int(held.on), held.since, held.till, held.wanted, held.missed]
        channels = self.channels(numbers[0])
        return [len(channels)] + channels

    def channels(self, number):
        return sorted(c for c, g in self.owner.items() if g == number)

    def go_on(self, now):
        missed, wanted = {}, []
        for number, held in self.groups.items():
            if not held.on:
                continue
            for at in held.counting(now):
                if now - at > held.slack:
                    missed[number] = missed.get(number, 0) + 1
                    held.missed += 1
                else:
                    wanted.append((at, number))
                    held.wanted += 1
            held.since = now + 1
        self.now = now
        told = [len(missed) + len(wanted)]
        for number in sorted(missed):
            told += [1, number, missed[number]]
        for at, number in sorted(wanted):
            told += [2, number, at, len(self.channels(number))] + self.channels(number)
        return told
