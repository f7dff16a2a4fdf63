"""The calls 23 and 24: those that put another state in the place of the calendar's own.

A told row is read into a new calendar, thing by thing, and only one that was read to its end becomes the state.
"""

from waitchains.chains import Calendar, Thing, become, order_key
from waitchains.limits import ASLEEP, BAD_STATE, CURRENT, DONE, FROZEN, FUTURE
from waitchains.limits import END, FAR, GREATEST_ID, GREATEST_PRIORITY, LEAST_ID, LEAST_PRIORITY
from waitchains.limits import MOST_HOLDS, MOST_KNOWN

# How many numbers tell of one thing, for each chain.
WIDTHS = (3, 3, 4, 3)


def thing_from(chain, numbers):
    thing = Thing(numbers[0], numbers[1])
    thing.chain = chain
    if chain == FUTURE:
        thing.due = numbers[2]
    else:
        thing.holds = numbers[2]
    if chain == FROZEN:
        thing.rest = numbers[3]
    return thing


def in_its_ranges(calendar, thing):
    if not LEAST_ID <= thing.number <= GREATEST_ID:
        return False
    if not LEAST_PRIORITY <= thing.priority <= GREATEST_PRIORITY:
        return False
    if not 0 <= thing.holds <= MOST_HOLDS:
        return False
    if thing.chain == FUTURE:
        return calendar.clock <= thing.due <= calendar.clock + FAR
    if thing.chain == FROZEN:
        return thing.holds > 0 and 0 <= thing.rest <= FAR
    return True


# Equals may stand in either order. Where the ids are the order there are none, as each id is known once.
def keeps_order(calendar, thing):
    ids = calendar.chains[thing.chain]
    return len(ids) == 0 or order_key(calendar.things[ids[-1]]) <= order_key(thing)


def may_be_last(calendar, thing):
    if len(calendar.things) >= MOST_KNOWN or thing.number in calendar.things:
        return False
    return in_its_ranges(calendar, thing) and keeps_order(calendar, thing)


# Where the chain's things end, or None where its count is missing, below 0 or greater than what follows.
def chain_end(row, start, width):
    if start >= len(row):
        return None
    count = row[start]
    if not 0 <= count <= (len(row) - start - 1) // width:
        return None
    return start + 1 + count * width


# Whether all things of the chain were allowed; the calendar is of no use if not.
def read_chain(calendar, chain, numbers):
    width = WIDTHS[chain]
    for place in range(0, len(numbers), width):
        thing = thing_from(chain, numbers[place:place + width])
        if not may_be_last(calendar, thing):
            return False
        calendar.things[thing.number] = thing
        calendar.chains[chain].append(thing.number)
    return True


# A new calendar with the state that the row tells, or None where it tells none.
def calendar_from(row):
    if len(row) == 0 or not 0 <= row[0] <= END:
        return None
    calendar = Calendar()
    calendar.clock = row[0]
    start = 1
    for chain in (CURRENT, FUTURE, FROZEN, ASLEEP):
        end = chain_end(row, start, WIDTHS[chain])
        if end is None or not read_chain(calendar, chain, row[start + 1:end]):
            return None
        start = end
    if start != len(row):
        return None
    return calendar


def load(calendar, row):
    other = calendar_from(row)
    if other is None:
        return [BAD_STATE]
    become(calendar, other)
    return [DONE]


def clear(calendar):
    become(calendar, Calendar())
    return [DONE]
