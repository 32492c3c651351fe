"""The calls on one new plan, handed in as one list of whole numbers, and their answers."""

from readtimes.calls import begin, make_alone, make_member, send_away, set_group, switch_on
from readtimes.state import Plan

BEGIN = 1
GROUP = 2
AWAY = 3
MEMBER = 4
ALONE = 5

# How many numbers stand behind each call's own.
NUMBERS_BEHIND = {1: 0, 2: 8, 3: 2, 4: 3, 5: 2, 6: 2}


def answers(calls):
    """For each call, in order: how many numbers are answered, then these."""
    plan = Plan()
    told = []
    place = 0
    while place < len(calls):
        first = place + 1
        behind = first + NUMBERS_BEHIND[calls[place]]
        answer = answer_call(plan, calls[place], calls[first:behind])
        told.append(len(answer))
        told.extend(answer)
        place = behind
    return told


def answer_call(plan, call, numbers):
    if call == BEGIN:
        return begin(plan)
    if call == GROUP:
        return answer_group(plan, numbers)
    if call == AWAY:
        return send_away(plan, numbers[0], numbers[1])
    if call == MEMBER:
        return make_member(plan, numbers[0], numbers[1], numbers[2])
    if call == ALONE:
        return make_alone(plan, numbers[0], numbers[1])
    # Only on is left: a number that's no call's has failed at NUMBERS_BEHIND before.
    return switch_on(plan, numbers[0], numbers[1])


def answer_group(plan, numbers):
    return set_group(
        plan, numbers[0], numbers[1], numbers[2], numbers[3],
        numbers[4], numbers[5], numbers[6], numbers[7],
    )
