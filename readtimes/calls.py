"""The calls on a plan: each answers a list, a refusal's number alone or what's wanted."""

from readtimes.groups import Group
from readtimes.limits import are_settings, is_channel, is_group, is_time

NOT_REFUSED = 0
NOT_IN_RANGE = -1
NO_SUCH_GROUP = -2
TIME_BEFORE = -4


def refuse_time(plan, now):
    if not is_time(now):
        return NOT_IN_RANGE
    if now < plan.now:
        return TIME_BEFORE
    return NOT_REFUSED


def refuse_group(plan, number, now):
    # Every range is asked first, then whether the group is there, and only then the time's order.
    if not is_group(number) or not is_time(now):
        return NOT_IN_RANGE
    if number not in plan.groups:
        return NO_SUCH_GROUP
    return refuse_time(plan, now)


def begin(plan):
    plan.reset()
    return [0]


def set_group(plan, number, period, quick, phase, burst, gap, slack, now):
    if not is_group(number) or not are_settings(period, quick, phase, burst, gap, slack):
        return [NOT_IN_RANGE]
    refusal = refuse_time(plan, now)
    if refusal != NOT_REFUSED:
        return [refusal]
    told = plan.go_on(now)
    plan.groups[number] = Group(period, quick, phase, burst, gap, slack, now)
    return told


def send_away(plan, number, now):
    refusal = refuse_group(plan, number, now)
    if refusal != NOT_REFUSED:
        return [refusal]
    told = plan.go_on(now)
    plan.groups.pop(number)
    for channel in plan.channels_of(number):
        plan.free_channel(channel)
    return told


def make_member(plan, channel, number, now):
    if not is_channel(channel):
        return [NOT_IN_RANGE]
    refusal = refuse_group(plan, number, now)
    if refusal != NOT_REFUSED:
        return [refusal]
    told = plan.go_on(now)
    plan.owners[channel] = number
    return told


def make_alone(plan, channel, now):
    if not is_channel(channel):
        return [NOT_IN_RANGE]
    refusal = refuse_time(plan, now)
    if refusal != NOT_REFUSED:
        return [refusal]
    told = plan.go_on(now)
    plan.free_channel(channel)
    return told


def switch_on(plan, number, now):
    refusal = refuse_group(plan, number, now)
    if refusal != NOT_REFUSED:
        return [refusal]
    told = plan.go_on(now)
    group = plan.groups[number]
    group.turn_on(now)
    return told
