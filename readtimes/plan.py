"""The calls on one new plan, handed in as one list of whole numbers, and their answers."""

from readtimes.calls import begin, look_at, make_alone, make_member, make_quick, pass_time
from readtimes.calls import send_away, set_group, switch_off, switch_on, tell_channels, tell_next
from readtimes.state import Plan

BEGIN = 1
GROUP = 2
AWAY = 3
MEMBER = 4
ALONE = 5
ON = 6
OFF = 7
QUICK = 8
TIME = 9
NEXT = 10
LOOK = 11

# How many numbers stand behind each call's own.
NUMBERS_BEHIND = {1: 0, 2: 8, 3: 2, 4: 3, 5: 2, 6: 2, 7: 2, 8: 3, 9: 1, 10: 0, 11: 1, 12: 1}


def answers(calls):
    """For each call, in order: how many numbers are answered, then these."""
    plan = Plan()
    told = []
    place = 0
    while place < len(calls):
        first = place + 1
        behind = first + NUMBERS_BEHIND[calls[place]]
        answer = answer_call(plan, calls[place], calls[first:behind])
        told.append(len(answer))
        told.extend(answer)
        place = behind
    return told


def answer_call(plan, call, numbers):
    if call == BEGIN:
        return begin(plan)
    if call == GROUP:
        return answer_group(plan, numbers)
    if call == AWAY:
        return send_away(plan, numbers[0], numbers[1])
    if call == MEMBER:
        return make_member(plan, numbers[0], numbers[1], numbers[2])
    if call == ALONE:
        return make_alone(plan, numbers[0], numbers[1])
    if call == ON:
        return switch_on(plan, numbers[0], numbers[1])
    if call == OFF:
        return switch_off(plan, numbers[0], numbers[1])
    if call == QUICK:
        return make_quick(plan, numbers[0], numbers[1], numbers[2])
    if call == TIME:
        return pass_time(plan, numbers[0])
    if call == NEXT:
        return tell_next(plan)
    if call == LOOK:
        return look_at(plan, numbers[0])
    # Only of is left: a number that's no call's has failed at NUMBERS_BEHIND before.
    return tell_channels(plan, numbers[0])


def answer_group(plan, numbers):
    return set_group(
        plan, numbers[0], numbers[1], numbers[2], numbers[3],
        numbers[4], numbers[5], numbers[6], numbers[7],
    )
