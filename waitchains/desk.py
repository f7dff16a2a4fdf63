"""The desk: one list of calls comes in, one list of answers goes out."""

from waitchains.chains import Calendar
from waitchains.loads import clear, load
from waitchains.looks import chain_ids, first, ready, sizes, told, where
from waitchains.moves import ahead, at, delay, drop, fetch, free, hold, join, joinall, rank, retime, sleep, wake
from waitchains.times import next_due, slip, turn, until

JOINALL = 1
LOAD = 23

# How many whole numbers stand behind each place; joinall and load have a row in their stead.
NUMBER_COUNTS = {
    0: 2, 2: 2, 3: 2, 4: 2, 5: 1, 6: 1, 7: 1, 8: 2, 9: 1, 10: 1, 11: 1, 12: 1,
    13: 0, 14: 0, 15: 0, 16: 1, 17: 1, 18: 1, 19: 1, 20: 0, 21: 0, 22: 0, 24: 0,
}


def has_row(place):
    return place == JOINALL or place == LOAD


def call_end(calls, start):
    place = calls[start]
    if has_row(place):
        return start + 2 + calls[start + 1]
    return start + 1 + NUMBER_COUNTS[place]


def answer_row(calendar, place, row):
    if place == JOINALL:
        return joinall(calendar, row)
    return load(calendar, row)


# The place is 0, 2, 3, 4 or 8, as NUMBER_COUNTS tells.
def answer_two_numbers(calendar, place, number, value):
    if place == 0:
        return join(calendar, number, value)
    if place == 2:
        return delay(calendar, number, value)
    if place == 3:
        return at(calendar, number, value)
    if place == 4:
        return retime(calendar, number, value)
    return rank(calendar, number, value)


# The place is 5, 6, 7, 9, 10, 11, 12, 16, 17, 18 or 19, as NUMBER_COUNTS tells.
def answer_one_number(calendar, place, number):
    if place == 5:
        return sleep(calendar, number)
    if place == 6:
        return wake(calendar, number)
    if place == 7:
        return drop(calendar, number)
    if place == 9:
        return hold(calendar, number)
    if place == 10:
        return free(calendar, number)
    if place == 11:
        return fetch(calendar, number)
    if place == 12:
        return ahead(calendar, number)
    if place == 16:
        return until(calendar, number)
    if place == 17:
        return slip(calendar, number)
    if place == 18:
        return where(calendar, number)
    return chain_ids(calendar, number)


# The place is 13, 14, 15, 20, 21, 22 or 24, as NUMBER_COUNTS tells.
def answer_no_number(calendar, place):
    if place == 13:
        return ready(calendar)
    if place == 14:
        return first(calendar)
    if place == 15:
        return turn(calendar)
    if place == 20:
        return sizes(calendar)
    if place == 21:
        return next_due(calendar)
    if place == 22:
        return told(calendar)
    return clear(calendar)


def answer_call(calendar, calls, start, end):
    place = calls[start]
    if has_row(place):
        return answer_row(calendar, place, calls[start + 2:end])
    count = NUMBER_COUNTS[place]
    if count == 2:
        return answer_two_numbers(calendar, place, calls[start + 1], calls[start + 2])
    if count == 1:
        return answer_one_number(calendar, place, calls[start + 1])
    return answer_no_number(calendar, place)


def answers(calls):
    calendar = Calendar()
    answered = []
    start = 0
    while start < len(calls):
        end = call_end(calls, start)
        answer = answer_call(calendar, calls, start, end)
        answered.append(len(answer))
        answered.extend(answer)
        start = end
    return answered
