"""Calls and answers as texts: numbers with a blank between two, calls and answers with a bar between two."""

import unittest

from waitchains.desk import answers

FAR = 10 ** 13
END = 10 ** 15
OUT = 10 ** 18

CURRENT = 0
FUTURE = 1
FROZEN = 2
ASLEEP = 3


def numbers_of(text):
    """The one list of numbers that a text of calls stands for, no longer than such a list may be."""
    numbers = [int(word) for word in text.replace("|", " ").split()]
    if text.count("|") >= 120 or len(numbers) > 16000:
        raise ValueError("a list of calls is too long")
    return numbers


def text_of(answered):
    """The answers of a list that was given back, as a text; the lengths must fit."""
    parts = []
    start = 0
    while start < len(answered):
        length = answered[start]
        part = answered[start + 1:start + 1 + length]
        if length < 1 or len(part) != length:
            raise ValueError("an answer's length does not fit")
        parts.append(" ".join([str(number) for number in part]))
        start += 1 + length
    return " | ".join(parts)


def run(text):
    """The answers to calls on a new calendar."""
    return text_of(answers(numbers_of(text)))


def last_answer(text):
    return run(text).split(" | ")[-1]


def joinall_of(pairs):
    """A joinall call of (id, p) pairs, as a text."""
    words = ["1", str(2 * len(pairs))]
    for number, priority in pairs:
        words.append(f"{number} {priority}")
    return " ".join(words)


def row_of(clock, current=(), future=(), frozen=(), asleep=()):
    """The row that tells a state, each thing a tuple of what told tells of it on its chain."""
    row = [clock]
    for things in (current, future, frozen, asleep):
        row.append(len(things))
        for thing in things:
            row.extend(thing)
    return row


def counted(row):
    """A row with its length before it, as a text."""
    return " ".join([str(number) for number in [len(row)] + list(row)])


def load_of(row):
    return "23 " + counted(row)


def told_of(row):
    """What told answers for the state that the row tells."""
    return "0 " + counted(row)


def ids_told(answer):
    """The ids on each of the four chains, in order, as an answer of told tells them."""
    numbers = [int(word) for word in answer.split()]
    chains = []
    start = 3
    for width in (3, 3, 4, 3):
        end = start + 1 + width * numbers[start]
        chains.append(numbers[start + 1:end:width])
        start = end
    return chains


class CallsCase(unittest.TestCase):
    """A test case that compares calls with their answers."""

    def same(self, answered, expected, calls):
        """The answers are these. Only the first that differs is shown, as a comparison of long texts takes minutes."""
        if answered == expected:
            return
        got = answered.split(" | ")
        due = expected.split(" | ")
        place = 0
        while got[place:place + 1] == due[place:place + 1]:
            place += 1
        got_there = " | ".join(got[place:place + 1])[:300]
        due_there = " | ".join(due[place:place + 1])[:300]
        self.fail(f"answer {place} is {got_there!r} and not {due_there!r}, for the calls {calls[:300]!r}")

    def answered(self, calls, expected):
        self.same(run(calls), expected, calls)

    def after(self, calls, expected):
        """The last call is answered so."""
        self.same(last_answer(calls), expected, calls)

    def chain_after(self, calls, chain, expected):
        """All calls are done, and the ids on the chain are these then: told by chain, by told and by where."""
        parts = run(calls + f" | 19 {chain} | 22").split(" | ")
        for part in parts:
            self.assertEqual(part.split()[0], "0", calls[:200])
        self.assertEqual(parts[-2], "0 " + counted(expected), calls[:200])
        self.assertEqual(ids_told(parts[-1])[chain], expected, calls[:200])
        looks = run(" | ".join([calls] + [f"18 {number}" for number in expected])).split(" | ")
        for place, number in enumerate(expected):
            words = looks[place - len(expected)].split()
            self.assertEqual((words[1], words[5]), (str(chain), str(place)), (calls[:200], number))

    def state_after(self, calls, row):
        """The state after the calls is the one that the row tells."""
        self.after(calls + " | 22", told_of(row))

    def on(self, row, calls, expected, row_after):
        """From the one state the calls are answered so and lead to the other."""
        self.answered(f"{load_of(row)} | {calls} | 22", f"0 | {expected} | {told_of(row_after)}")

    def refused(self, row, call, refusal):
        """From this state the call is refused so, and nothing is changed."""
        self.on(row, call, str(refusal), row)
