"""The calls on a plan: each answers a list, a refusal's number alone or what's told."""

from readtimes.groups import Group, next_reading
from readtimes.limits import are_settings, is_channel, is_group, is_time

NOT_REFUSED = 0
NOT_IN_RANGE = -1
NO_SUCH_GROUP = -2
TIME_BEFORE = -4


def refuse_time(plan, now):
    if not is_time(now):
        return NOT_IN_RANGE
    if now < plan.now:
        return TIME_BEFORE
    return NOT_REFUSED


def refuse_group(plan, number, now):
    # Every range is asked first, then whether the group is there, and only then the time's order.
    if not is_group(number) or not is_time(now):
        return NOT_IN_RANGE
    if number not in plan.groups:
        return NO_SUCH_GROUP
    return refuse_time(plan, now)


def begin(plan):
    plan.reset()
    return [0]


def set_group(plan, number, period, quick, phase, burst, gap, slack, now):
    if not is_group(number) or not are_settings(period, quick, phase, burst, gap, slack):
        return [NOT_IN_RANGE]
    refusal = refuse_time(plan, now)
    if refusal != NOT_REFUSED:
        return [refusal]
    told = plan.go_on(now)
    plan.groups[number] = Group(period, quick, phase, burst, gap, slack, now)
    return told


def send_away(plan, number, now):
    refusal = refuse_group(plan, number, now)
    if refusal != NOT_REFUSED:
        return [refusal]
    told = plan.go_on(now)
    plan.groups.pop(number)
    for channel in plan.channels_of(number):
        plan.free_channel(channel)
    return told


def make_member(plan, channel, number, now):
    if not is_channel(channel):
        return [NOT_IN_RANGE]
    refusal = refuse_group(plan, number, now)
    if refusal != NOT_REFUSED:
        return [refusal]
    told = plan.go_on(now)
    plan.owners[channel] = number
    return told


def make_alone(plan, channel, now):
    if not is_channel(channel):
        return [NOT_IN_RANGE]
    refusal = refuse_time(plan, now)
    if refusal != NOT_REFUSED:
        return [refusal]
    told = plan.go_on(now)
    plan.free_channel(channel)
    return told


def switch_on(plan, number, now):
    refusal = refuse_group(plan, number, now)
    if refusal != NOT_REFUSED:
        return [refusal]
    told = plan.go_on(now)
    group = plan.groups[number]
    group.turn_on(now)
    return told


def switch_off(plan, number, now):
    refusal = refuse_group(plan, number, now)
    if refusal != NOT_REFUSED:
        return [refusal]
    told = plan.go_on(now)
    group = plan.groups[number]
    group.turn_off()
    return told


def make_quick(plan, number, now, till):
    if not is_time(till) or till <= now:
        return [NOT_IN_RANGE]
    refusal = refuse_group(plan, number, now)
    if refusal != NOT_REFUSED:
        return [refusal]
    told = plan.go_on(now)
    group = plan.groups[number]
    group.till = till
    return told


def pass_time(plan, now):
    refusal = refuse_time(plan, now)
    if refusal != NOT_REFUSED:
        return [refusal]
    return plan.go_on(now)


def tell_next(plan):
    times = [next_reading(group) for group in plan.groups_on()]
    if len(times) == 0:
        return [NO_SUCH_GROUP]
    return [0, min(times)]


def look_at(plan, number):
    # No range is asked: a group above the last is one that isn't there.
    if number not in plan.groups:
        return [NO_SUCH_GROUP]
    group = plan.groups[number]
    active = 1 if group.active else 0
    return [0, active, group.since, group.till, group.wanted_in_all, group.missed_in_all]


def tell_channels(plan, number):
    if number not in plan.groups:
        return [NO_SUCH_GROUP]
    channels = plan.channels_of(number)
    return [len(channels)] + channels
