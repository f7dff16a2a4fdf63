"""Calls and answers as texts: numbers with a blank between two, calls and answers with a bar between two."""

import unittest

from waitchains.chains import Calendar
from waitchains.desk import answers, answers_on

FAR = 10 ** 13
END = 10 ** 15
OUT = 10 ** 18

CURRENT = 0
FUTURE = 1
FROZEN = 2
ASLEEP = 3


def numbers_of(text):
    """The one list of numbers that a text of calls stands for."""
    return [int(word) for word in text.replace("|", " ").split()]


def text_of(answered):
    """The answers of a list that was given back, as a text; the lengths must fit."""
    parts = []
    start = 0
    while start < len(answered):
        length = answered[start]
        part = answered[start + 1:start + 1 + length]
        if length < 1 or len(part) != length:
            raise ValueError("an answer's length does not fit")
        parts.append(" ".join([str(number) for number in part]))
        start += 1 + length
    return " | ".join(parts)


def run(text):
    """The answers to calls on a new calendar."""
    return text_of(answers(numbers_of(text)))


def run_on(calendar, text):
    """The answers to calls on a calendar of the test's own."""
    return text_of(answers_on(calendar, numbers_of(text)))


def joinall_of(pairs):
    """A joinall call of (id, p) pairs, as a text."""
    words = ["1", str(2 * len(pairs))]
    for number, priority in pairs:
        words.append(f"{number} {priority}")
    return " ".join(words)


def calendar_at(clock, text):
    """A calendar with this clock after calls that are all done."""
    calendar = Calendar()
    calendar.clock = clock
    for answer in run_on(calendar, text).split(" | "):
        if answer.split()[:1] not in ([], ["0"]):
            raise ValueError("a call that readies a test was refused")
    return calendar


def state_of(calendar):
    """Everything that the calendar keeps, as plain values that later changes don't reach."""
    things = [
        (number, thing.number, thing.priority, thing.holds, thing.chain, thing.due, thing.rest)
        for number, thing in sorted(calendar.things.items())
    ]
    return (calendar.clock, things, [list(chain) for chain in calendar.chains])


class CallsCase(unittest.TestCase):
    """A test case that compares calls with their answers."""

    def answered(self, calls, expected):
        self.assertEqual(run(calls), expected, calls)

    def chain(self, calendar, chain, expected):
        self.assertEqual(calendar.chains[chain], expected)
