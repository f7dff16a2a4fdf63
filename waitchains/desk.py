"""The desk: one list of calls comes in, one list of answers goes out."""

from waitchains.chains import Calendar
from waitchains.moves import ahead, at, delay, drop, fetch, free, hold, join, joinall, rank, retime, sleep, wake

JOINALL = 1

# How many whole numbers stand behind each place; joinall has a row in their stead.
# A place that is not listed has no call yet, and looking it up here fails.
NUMBER_COUNTS = {0: 2, 2: 2, 3: 2, 4: 2, 5: 1, 6: 1, 7: 1, 8: 2, 9: 1, 10: 1, 11: 1, 12: 1}


def call_end(calls, start):
    place = calls[start]
    if place == JOINALL:
        return start + 2 + calls[start + 1]
    return start + 1 + NUMBER_COUNTS[place]


# The place is 0, 2, 3, 4 or 8, as NUMBER_COUNTS tells.
def answer_two_numbers(calendar, place, number, value):
    if place == 0:
        return join(calendar, number, value)
    if place == 2:
        return delay(calendar, number, value)
    if place == 3:
        return at(calendar, number, value)
    if place == 4:
        return retime(calendar, number, value)
    return rank(calendar, number, value)


# The place is 5, 6, 7, 9, 10, 11 or 12, as NUMBER_COUNTS tells.
def answer_one_number(calendar, place, number):
    if place == 5:
        return sleep(calendar, number)
    if place == 6:
        return wake(calendar, number)
    if place == 7:
        return drop(calendar, number)
    if place == 9:
        return hold(calendar, number)
    if place == 10:
        return free(calendar, number)
    if place == 11:
        return fetch(calendar, number)
    return ahead(calendar, number)


def answer_call(calendar, calls, start, end):
    place = calls[start]
    if place == JOINALL:
        return joinall(calendar, calls[start + 2:end])
    if NUMBER_COUNTS[place] == 2:
        return answer_two_numbers(calendar, place, calls[start + 1], calls[start + 2])
    return answer_one_number(calendar, place, calls[start + 1])


# Apart from answers, so that a calendar can be looked at between calls.
def answers_on(calendar, calls):
    answered = []
    start = 0
    while start < len(calls):
        end = call_end(calls, start)
        answer = answer_call(calendar, calls, start, end)
        answered.append(len(answer))
        answered.extend(answer)
        start = end
    return answered


def answers(calls):
    return answers_on(Calendar(), calls)
