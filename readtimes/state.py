"""A plan: the time, its groups, and of which group each channel is."""

TOO_LATE = 1
TO_READ = 2


class Plan:
    def __init__(self):
        self.reset()

    def reset(self):
        self.now = 0
        self.groups = {}
        self.owners = {}

    def channels_of(self, number):
        return [channel for channel in sorted(self.owners) if self.owners[channel] == number]

    def free_channel(self, channel):
        if channel in self.owners:
            self.owners.pop(channel)

    def groups_on(self):
        return [self.groups[number] for number in sorted(self.groups) if self.groups[number].active]

    def go_on(self, now):
        """Time goes on to now: how many things are wanted, then these."""
        late = []
        wanted = []
        for number in sorted(self.groups):
            group = self.groups[number]
            if group.active:
                late.append((number, group.take_missed(now)))
                wanted.extend([(at, number) for at in group.take_wanted(now)])
                group.since = now + 1
        self.now = now
        return self.tell([pair for pair in late if pair[1] > 0], sorted(wanted))

    def tell(self, late, wanted):
        told = [len(late) + len(wanted)]
        for pair in late:
            told.extend([TOO_LATE, pair[0], pair[1]])
        for pair in wanted:
            channels = self.channels_of(pair[1])
            told.extend([TO_READ, pair[1], pair[0], len(channels)])
            told.extend(channels)
        return told
