"""The calls 0 to 12: those that make a thing known, move it, or forget it.

Each is called as the document calls it and gives back its answer as a list: DONE and what is told, or a refusal
alone. What a call asks comes ahead of its first change, so that a refused call changes nothing.
"""

from waitchains.chains import Thing, move_to_asleep, move_to_current, move_to_frozen, move_to_future
from waitchains.chains import put_behind, put_in_front, take_off, time_left
from waitchains.limits import ALL_ARE_KNOWN, ALL_HOLDS, BAD_ID, BAD_PRIORITY, BAD_TIME, DONE, ID_IS_KNOWN
from waitchains.limits import NO_HOLDS, NOT_KNOWN, ODD_ROW, WRONG_CHAIN
from waitchains.limits import ASLEEP, CURRENT, FROZEN, FUTURE
from waitchains.limits import END, FAR, GREATEST_ID, GREATEST_PRIORITY, LEAST_ID, LEAST_PRIORITY
from waitchains.limits import MOST_HOLDS, MOST_KNOWN


# The known ids are handed in, as joinall asks with more of them than the calendar has.
def join_refusal(known, number, priority):
    if not LEAST_ID <= number <= GREATEST_ID:
        return BAD_ID
    if not LEAST_PRIORITY <= priority <= GREATEST_PRIORITY:
        return BAD_PRIORITY
    if number in known:
        return ID_IS_KNOWN
    if len(known) >= MOST_KNOWN:
        return ALL_ARE_KNOWN
    return DONE


def joinall_refusal(known, pairs):
    # A copy of the known ids takes in the joins so far: the calendar itself stays as it is until all are allowed.
    counted = dict(known)
    for place in range(0, len(pairs), 2):
        refusal = join_refusal(counted, pairs[place], pairs[place + 1])
        if refusal != DONE:
            return refusal
        counted[pairs[place]] = True
    return DONE


def add_thing(calendar, number, priority):
    thing = Thing(number, priority)
    calendar.things[number] = thing
    put_behind(calendar, thing)


def join(calendar, number, priority):
    refusal = join_refusal(calendar.things, number, priority)
    if refusal != DONE:
        return [refusal]
    add_thing(calendar, number, priority)
    return [DONE]


def joinall(calendar, pairs):
    if len(pairs) % 2 == 1:
        return [ODD_ROW]
    refusal = joinall_refusal(calendar.things, pairs)
    if refusal != DONE:
        return [refusal]
    for place in range(0, len(pairs), 2):
        add_thing(calendar, pairs[place], pairs[place + 1])
    return [DONE]


def begin_wait(calendar, thing, wait):
    if thing.holds == 0:
        move_to_future(calendar, thing, wait)
    else:
        move_to_frozen(calendar, thing, wait)


def delay(calendar, number, wait):
    if number not in calendar.things:
        return [NOT_KNOWN]
    thing = calendar.things[number]
    if not 0 <= wait <= FAR:
        return [BAD_TIME]
    if thing.chain == FUTURE or thing.chain == FROZEN:
        return [WRONG_CHAIN]
    begin_wait(calendar, thing, wait)
    return [DONE]


def at(calendar, number, time):
    if number not in calendar.things:
        return [NOT_KNOWN]
    if not calendar.clock <= time <= END:
        return [BAD_TIME]
    # A time above the clock + FAR is a wait above FAR, which delay refuses by the same number and in the same order.
    return delay(calendar, number, time - calendar.clock)


def retime(calendar, number, wait):
    if number not in calendar.things:
        return [NOT_KNOWN]
    thing = calendar.things[number]
    if not 0 <= wait <= FAR:
        return [BAD_TIME]
    if thing.chain == CURRENT or thing.chain == ASLEEP:
        return [WRONG_CHAIN]
    # Here 0 holds mean the future chain and more mean frozen, so each stays on its chain.
    begin_wait(calendar, thing, wait)
    return [DONE]


def sleep(calendar, number):
    if number not in calendar.things:
        return [NOT_KNOWN]
    thing = calendar.things[number]
    if thing.chain == ASLEEP:
        return [WRONG_CHAIN]
    move_to_asleep(calendar, thing)
    return [DONE]


def wake(calendar, number):
    if number not in calendar.things:
        return [NOT_KNOWN]
    thing = calendar.things[number]
    if thing.chain != ASLEEP:
        return [WRONG_CHAIN]
    move_to_current(calendar, thing)
    return [DONE]


def drop(calendar, number):
    if number not in calendar.things:
        return [NOT_KNOWN]
    take_off(calendar, calendar.things[number])
    calendar.things.pop(number)
    return [DONE]


def rank(calendar, number, priority):
    if number not in calendar.things:
        return [NOT_KNOWN]
    thing = calendar.things[number]
    if not LEAST_PRIORITY <= priority <= GREATEST_PRIORITY:
        return [BAD_PRIORITY]
    thing.priority = priority
    if thing.chain == CURRENT:
        move_to_current(calendar, thing)
    return [DONE]


def hold(calendar, number):
    if number not in calendar.things:
        return [NOT_KNOWN]
    thing = calendar.things[number]
    if thing.holds >= MOST_HOLDS:
        return [ALL_HOLDS]
    thing.holds += 1
    if thing.chain == FUTURE:
        move_to_frozen(calendar, thing, time_left(calendar, thing))
    return [DONE]


def free(calendar, number):
    if number not in calendar.things:
        return [NOT_KNOWN]
    thing = calendar.things[number]
    if thing.holds == 0:
        return [NO_HOLDS]
    thing.holds -= 1
    if thing.chain == FROZEN and thing.holds == 0:
        move_to_future(calendar, thing, thing.rest)
    return [DONE]


def fetch(calendar, number):
    if number not in calendar.things:
        return [NOT_KNOWN]
    thing = calendar.things[number]
    if thing.chain == ASLEEP:
        return [WRONG_CHAIN]
    rest = time_left(calendar, thing)
    if thing.chain != CURRENT:
        move_to_current(calendar, thing)
    return [DONE, rest]


def ahead(calendar, number):
    if number not in calendar.things:
        return [NOT_KNOWN]
    thing = calendar.things[number]
    if thing.chain == FROZEN or thing.chain == ASLEEP:
        return [WRONG_CHAIN]
    take_off(calendar, thing)
    put_in_front(calendar, thing)
    return [DONE]
