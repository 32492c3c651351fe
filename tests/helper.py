"""Calls by name, answers split call by call, and a slow plan to compare with."""

from readtimes.plan import answers

DAY = 86400000000
LAST_TIME = 2 ** 62
MOST = 2 ** 64 - 1


def begin():
    return [1]


def group(number, now, period=1000, quick=1000, phase=0, burst=1, gap=1, slack=0):
    return [2, number, period, quick, phase, burst, gap, slack, now]


def away(number, now):
    return [3, number, now]


def member(channel, number, now):
    return [4, channel, number, now]


def alone(channel, now):
    return [5, channel, now]


def on(number, now):
    return [6, number, now]


def tick(now):
    """Time goes on and nothing else: no test here has anything of channel 63 unless it says so."""
    return alone(63, now)


def split(told):
    """The answers, one list a call."""
    parts = []
    place = 0
    while place < len(told):
        length = told[place]
        part = told[place + 1:place + 1 + length]
        assert len(part) == length, "an answer is shorter than it tells"
        parts.append(part)
        place += 1 + length
    return parts


def ask(*calls):
    """One answer a call."""
    parts = split(answers([number for call in calls for number in call]))
    assert len(parts) == len(calls), "not one answer a call"
    return parts


def last(*calls):
    return ask(*calls)[-1]


class SlowPlan:
    """Walks reading after reading, microsecond-exact; only for times that are small."""

    def __init__(self):
        self.begin()

    def begin(self):
        self.now = 0
        self.groups = {}
        self.owner = {}

    def answer(self, call):
        kind, numbers = call[0], call[1:]
        if kind == 1:
            self.begin()
            return [0]
        refusal = self.refusal(kind, numbers)
        if refusal:
            return [refusal]
        told = self.go_on(numbers[-1])
        self.change(kind, numbers)
        return told

    def refusal(self, kind, numbers):
        now = numbers[-1]
        ranges = [now <= LAST_TIME]
        if kind in (2, 3, 6):
            ranges.append(numbers[0] < 16)
        if kind in (4, 5):
            ranges.append(numbers[0] < 64)
        if kind == 4:
            ranges.append(numbers[1] < 16)
        if kind == 2:
            period, quick, phase, burst, gap, slack = numbers[1:7]
            ranges += [1000 <= period <= DAY, 1000 <= quick <= period, phase < DAY, 1 <= burst <= 16]
            ranges += [gap >= 1, sum([gap] * (min(burst, 17) - 1)) < quick, slack < quick]
        if not all(ranges):
            return -1
        if kind in (3, 4, 6) and numbers[1 if kind == 4 else 0] not in self.groups:
            return -2
        return -4 if now < self.now else 0

    def change(self, kind, numbers):
        if kind == 2:
            self.groups[numbers[0]] = {"set": numbers[1:7], "on": False, "from": None}
        if kind == 3:
            del self.groups[numbers[0]]
            self.owner = {c: g for c, g in self.owner.items() if g != numbers[0]}
        if kind == 4:
            self.owner[numbers[0]] = numbers[1]
        if kind == 5:
            self.owner.pop(numbers[0], None)
        if kind == 6 and not self.groups[numbers[0]]["on"]:
            self.groups[numbers[0]].update({"on": True, "from": numbers[1]})

    def go_on(self, now):
        missed, wanted = {}, []
        for number, held in self.groups.items():
            if not held["on"]:
                continue
            period, quick, phase, burst, gap, slack = held["set"]
            start = phase
            while start <= now:
                for at in [start + place * gap for place in range(burst)]:
                    if held["from"] < at <= now and now - at > slack:
                        missed[number] = missed.get(number, 0) + 1
                    elif held["from"] < at <= now:
                        wanted.append((at, number))
                start += period
            held["from"] = now
        self.now = now
        told = [len(missed) + len(wanted)]
        for number in sorted(missed):
            told += [1, number, missed[number]]
        for at, number in sorted(wanted):
            channels = sorted(c for c, g in self.owner.items() if g == number)
            told += [2, number, at, len(channels)] + channels
        return told
