"""The calls 15, 16, 17 and 21: those of the clock and of the dues that wait for it.

Each gives back its answer as a list: DONE and what is told, or a refusal alone. What a call asks comes ahead of its
first change, so that a refused call changes nothing.
"""

from waitchains.chains import move_to_current
from waitchains.limits import BAD_TIME, DONE, END, FAR, FUTURE, NOTHING_IS_DUE, TOO_LATE


# Only where something waits.
def least_due(calendar):
    return calendar.things[calendar.chains[FUTURE][0]].due


def waits_until(calendar, time):
    return len(calendar.chains[FUTURE]) > 0 and least_due(calendar) <= time


# They stand together at the front, as the chain is in order of the dues.
def ids_with_least_due(calendar):
    ids = calendar.chains[FUTURE]
    least = least_due(calendar)
    count = 0
    while count < len(ids) and calendar.things[ids[count]].due == least:
        count += 1
    return ids[:count]


def make_turn(calendar):
    came = ids_with_least_due(calendar)
    calendar.clock = least_due(calendar)
    for number in came:
        move_to_current(calendar, calendar.things[number])
    return came


def turn(calendar):
    if len(calendar.chains[FUTURE]) == 0:
        return [NOTHING_IS_DUE]
    if least_due(calendar) > END:
        return [TOO_LATE]
    came = make_turn(calendar)
    return [DONE, calendar.clock, len(came)] + came


def until(calendar, time):
    if not calendar.clock <= time <= END:
        return [BAD_TIME]
    turns = 0
    came = []
    while waits_until(calendar, time):
        came.extend(make_turn(calendar))
        turns += 1
    calendar.clock = time
    return [DONE, turns, len(came)] + came


def slip(calendar, wait):
    if not 0 <= wait <= FAR:
        return [BAD_TIME]
    ids = calendar.chains[FUTURE]
    # The last due is the greatest: where it may slip, all may.
    if len(ids) > 0 and calendar.things[ids[-1]].due + wait > calendar.clock + FAR:
        return [TOO_LATE]
    # All dues grow by the same, so the chain stays in order.
    for number in ids:
        thing = calendar.things[number]
        thing.due += wait
    return [DONE]


# The call next; Python has that name for its own.
def next_due(calendar):
    if len(calendar.chains[FUTURE]) == 0:
        return [NOTHING_IS_DUE]
    return [DONE, least_due(calendar), len(ids_with_least_due(calendar))]
