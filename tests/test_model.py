"""Many mixed calls against a plain model of the document, which keeps one list a chain and walks it."""

import random
import unittest

from waitchains.chains import Calendar
from tests.helper import FAR, END, run_on

ONE_NUMBER = (5, 6, 7, 9, 10, 11, 12)


class Model:
    """Each thing is a dict; each chain a list of such, ordered by nothing but where they are put in."""

    def __init__(self, clock):
        self.clock = clock
        self.chains = [[], [], [], []]

    def find(self, number):
        for chain, things in enumerate(self.chains):
            for thing in things:
                if thing["id"] == number:
                    return chain, thing
        return None, None

    def put(self, chain, thing, front=False):
        for things in self.chains:
            if thing in things:
                things.remove(thing)
        row = self.chains[chain]
        name = ("p", "time", "id", "id")[chain]
        sign = -1 if chain == 0 else 1
        ahead = [one for one in row if sign * one[name] < sign * thing[name]]
        same = [one for one in row if one[name] == thing[name]]
        row.insert(len(ahead) + (0 if front else len(same)), thing)

    def join(self, number, p):
        if not 1 <= number <= 10 ** 9:
            return "-1"
        if not -1000 <= p <= 1000:
            return "-2"
        if self.find(number)[1]:
            return "-3"
        self.put(0, {"id": number, "p": p, "holds": 0, "time": 0})
        return "0"

    def joinall(self, row):
        if len(row) % 2:
            return "-15"
        before = [list(things) for things in self.chains]
        for place in range(0, len(row), 2):
            answer = self.join(row[place], row[place + 1])
            if answer != "0":
                self.chains = before
                return answer
        return "0"

    def call(self, place, number, value):
        """The answer to a call on one thing, its value None where it has none."""
        chain, thing = self.find(number)
        if thing is None:
            return "-5"
        if place == 3:
            if not self.clock <= value <= min(END, self.clock + FAR):
                return "-6"
            place, value = 2, value - self.clock
        if place in (2, 4) and not 0 <= value <= FAR:
            return "-6"
        if place == 8 and not -1000 <= value <= 1000:
            return "-2"
        wrong = {2: (1, 2), 4: (0, 3), 5: (3,), 6: (0, 1, 2), 11: (3,), 12: (2, 3)}
        if chain in wrong.get(place, ()):
            return "-7"
        if place == 10 and thing["holds"] == 0:
            return "-10"
        return self.do(place, chain, thing, value)

    def do(self, place, chain, thing, value):
        left = {1: thing["time"] - self.clock, 2: thing["time"]}.get(chain, 0)
        goes = None
        if place in (2, 4):
            goes = 2 if thing["holds"] else 1
            left = value
        elif place == 5:
            goes = 3
        elif place == 6 or (place == 11 and chain in (1, 2)):
            goes = 0
        elif place == 7:
            self.chains[chain].remove(thing)
        elif place == 8:
            thing["p"] = value
            goes = 0 if chain == 0 else None
        elif place == 9:
            thing["holds"] += 1
            goes = 2 if chain == 1 else None
        elif place == 10:
            thing["holds"] -= 1
            goes = 1 if chain == 2 and thing["holds"] == 0 else None
        elif place == 12:
            self.put(chain, thing, front=True)
        if goes is not None:
            self.chains[chain].remove(thing)
            thing["time"] = (0, self.clock + left, left, 0)[goes]
            self.put(goes, thing)
        return f"0 {left}" if place == 11 else "0"


def random_call(source, clock):
    """A call on few ids, priorities and times, so that equals and refusals are frequent: place, id, value."""
    place = source.choice((0, 0, 1, 2, 2, 3, 4, 4, 5, 6, 7, 8, 8, 9, 9, 10, 10, 11, 12, 12))
    number = source.randint(0, 14)
    if place == 1:
        return place, [source.randint(0, 16) if source.random() < 0.3 else source.randint(1, 14)
                       for _ in range(source.randint(0, 5))], None
    if place in ONE_NUMBER:
        return place, number, None
    if place in (0, 8):
        return place, number, source.choice((-1001, -1, 0, 0, 1, 1, 1000))
    wait = source.choice((-1, 0, 1, 1, 2, 2, 3, FAR, FAR + 1))
    return place, number, wait + (clock if place == 3 else 0)


def call_text(place, number, value):
    if place == 1:
        return " ".join([str(word) for word in [1, len(number)] + number])
    return f"{place} {number}" if value is None else f"{place} {number} {value}"


class AgainstTheModel(unittest.TestCase):
    def compare(self, seed, clock):
        source = random.Random(seed)
        calendar = Calendar()
        calendar.clock = clock
        model = Model(clock)
        for _ in range(400):
            # The clock may go on where nothing is due yet, as the calls of the clock will let it.
            if not model.chains[1] and source.random() < 0.1:
                calendar.clock = model.clock = min(END, model.clock + 3)
            place, number, value = random_call(source, model.clock)
            text = call_text(place, number, value)
            if place == 0:
                expected = model.join(number, value)
            elif place == 1:
                expected = model.joinall(number)
            else:
                expected = model.call(place, number, value)
            self.assertEqual(run_on(calendar, text), expected, (seed, text))
            self.assertEqual(calendar.chains, [[one["id"] for one in row] for row in model.chains], (seed, text))

    def test_mixed_calls(self):
        for seed in range(30):
            self.compare(seed, 0)
            self.compare(seed + 1000, 500)
            self.compare(seed + 2000, END - 2)


if __name__ == "__main__":
    unittest.main()
