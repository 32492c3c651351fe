"""A group: what's set of it, its readings, and from when on these count."""


class Group:
    """A group that's set at now; it's off."""

    def __init__(self, period, quick, phase, burst, gap, slack, now):
        self.period = period
        self.quick = quick
        self.phase = phase
        self.burst = burst
        self.gap = gap
        self.slack = slack
        self.wanted_in_all = 0
        self.missed_in_all = 0
        self.active = False
        self.start_behind(now)

    def start_behind(self, now):
        """Readings count from just behind now, and none of these is a quick one."""
        self.since = now + 1
        self.till = now + 1

    def turn_on(self, now):
        if not self.active:
            self.active = True
            self.start_behind(now)

    def turn_off(self):
        # The times stay: they're told as they were till it's on again.
        self.active = False

    def take_missed(self, now):
        """How many of the readings that count came too late for now."""
        missed = count_readings(self, self.since, now - self.slack - 1)
        self.missed_in_all += missed
        return missed

    def take_wanted(self, now):
        """The times of the readings that count and are still to be read at now."""
        wanted = reading_times(self, max(self.since, now - self.slack), now)
        self.wanted_in_all += len(wanted)
        return wanted


def count_readings(group, first, last):
    """How many readings the group has from first to last, both too."""
    quick = count_with_period(group, group.quick, first, min(last, group.till - 1))
    usual = count_with_period(group, group.period, max(first, group.till), last)
    return quick + usual


def count_with_period(group, period, first, last):
    # Very many may have gone by at once, so they are reckoned, not walked.
    if first > last:
        return 0
    return count_up_to(group, period, last) - count_up_to(group, period, first - 1)


def count_up_to(group, period, last):
    count = 0
    for place in range(group.burst):
        passed = last - burst_place(group, place)
        if passed >= 0:
            count += passed // period + 1
    return count


def reading_times(group, first, last):
    """The times of the group's readings from first to last, both too, in no set order."""
    quick = times_with_period(group, group.quick, first, min(last, group.till - 1))
    usual = times_with_period(group, group.period, max(first, group.till), last)
    return quick + usual


def times_with_period(group, period, first, last):
    times = []
    for place in range(group.burst):
        at = first_of_place(group, period, place, first)
        while at <= last:
            times.append(at)
            at += period
    return times


def next_reading(group):
    """The time of the first of the group's readings that count."""
    quick = first_with_period(group, group.quick, group.since)
    if quick < group.till:
        return quick
    return first_with_period(group, group.period, max(group.since, group.till))


def first_with_period(group, period, first):
    return min([first_of_place(group, period, place, first) for place in range(group.burst)])


def first_of_place(group, period, place, first):
    """The first reading with that place in its burst that isn't before first."""
    start = burst_place(group, place)
    # Rounded up, so that none before first is taken.
    steps = max(0, (first - start + period - 1) // period)
    return start + steps * period


def burst_place(group, place):
    """The time of the reading with that place in the very first burst."""
    return group.phase + place * group.gap
