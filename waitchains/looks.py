"""The calls 13, 14, 18, 19, 20 and 22: those that tell what is there and change nothing.

Each gives back its answer as a list: DONE and what is told, or a refusal alone.
"""

from waitchains.limits import ASLEEP, BAD_CHAIN, CURRENT, DONE, FROZEN, FUTURE, NOT_KNOWN


def ready_ids(calendar):
    return [number for number in calendar.chains[CURRENT] if calendar.things[number].holds == 0]


def ready(calendar):
    ids = ready_ids(calendar)
    return [DONE, len(ids)] + ids


def first(calendar):
    ids = ready_ids(calendar)
    if len(ids) == 0:
        return [DONE, 0]
    return [DONE, ids[0]]


def due_or_rest(thing):
    if thing.chain == FUTURE:
        return thing.due
    return thing.rest


def where(calendar, number):
    if number not in calendar.things:
        return [NOT_KNOWN]
    thing = calendar.things[number]
    in_front = calendar.chains[thing.chain].index(number)
    return [DONE, thing.chain, thing.priority, thing.holds, due_or_rest(thing), in_front]


def chain_ids(calendar, chain):
    if not CURRENT <= chain <= ASLEEP:
        return [BAD_CHAIN]
    ids = calendar.chains[chain]
    return [DONE, len(ids)] + ids


def sizes(calendar):
    return [DONE, calendar.clock] + [len(ids) for ids in calendar.chains]


def told_thing(thing):
    if thing.chain == FUTURE:
        return [thing.number, thing.priority, thing.due]
    if thing.chain == FROZEN:
        return [thing.number, thing.priority, thing.holds, thing.rest]
    return [thing.number, thing.priority, thing.holds]


def told(calendar):
    row = [calendar.clock]
    for ids in calendar.chains:
        row.append(len(ids))
        for number in ids:
            row.extend(told_thing(calendar.things[number]))
    return [DONE, len(row)] + row
