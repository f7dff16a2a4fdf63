"""The calendar's state, and how a thing is put on a chain."""

from waitchains.limits import ASLEEP, CURRENT, FROZEN, FUTURE


# A known thing. Its due counts on the future chain alone and its rest among the frozen alone: elsewhere both are
# kept at 0, so that nothing lost with a chain can come back.
class Thing:
    def __init__(self, number, priority):
        self.number = number
        self.priority = priority
        self.holds = 0
        self.chain = CURRENT
        self.due = 0
        self.rest = 0


# The clock, the known things by their ids, and the ids on each of the four chains, in order.
class Calendar:
    def __init__(self):
        self.clock = 0
        self.things = {}
        self.chains = [[], [], [], []]


# The calendar goes on with all that the other one has; the other is not used any more, as both share it then.
def become(calendar, other):
    calendar.clock = other.clock
    calendar.things = other.things
    calendar.chains = other.chains


# Every chain is in order of this number, the least first: one way of putting things in serves all four.
def order_key(thing):
    if thing.chain == CURRENT:
        return -thing.priority
    if thing.chain == FUTURE:
        return thing.due
    return thing.number


# How many things on its chain the thing goes behind. It must not stand there itself, as it could be its own equal.
def place_on_chain(calendar, thing, in_front):
    row = calendar.chains[thing.chain]
    key = order_key(thing)
    low = 0
    high = len(row)
    # The chain is in order, so halving finds the place: a walk would be slow where 2000 things join at once.
    while low < high:
        middle = (low + high) // 2
        other = order_key(calendar.things[row[middle]])
        if other < key or (other == key and not in_front):
            low = middle + 1
        else:
            high = middle
    return low


def put_behind(calendar, thing):
    place = place_on_chain(calendar, thing, False)
    calendar.chains[thing.chain].insert(place, thing.number)


def put_in_front(calendar, thing):
    place = place_on_chain(calendar, thing, True)
    calendar.chains[thing.chain].insert(place, thing.number)


def take_off(calendar, thing):
    calendar.chains[thing.chain].remove(thing.number)


def move(calendar, thing, chain, due, rest):
    take_off(calendar, thing)
    thing.chain = chain
    thing.due = due
    thing.rest = rest
    put_behind(calendar, thing)


def move_to_current(calendar, thing):
    move(calendar, thing, CURRENT, 0, 0)


def move_to_future(calendar, thing, wait):
    move(calendar, thing, FUTURE, calendar.clock + wait, 0)


def move_to_frozen(calendar, thing, rest):
    move(calendar, thing, FROZEN, 0, rest)


def move_to_asleep(calendar, thing):
    move(calendar, thing, ASLEEP, 0, 0)


def time_left(calendar, thing):
    if thing.chain == FUTURE:
        return thing.due - calendar.clock
    return thing.rest
