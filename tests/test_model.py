"""Many mixed lists of calls against a plain model of the document, which keeps one list a chain and walks it."""

import random
import unittest

from waitchains.desk import answers
from tests.helper import END, FAR, OUT, load_of, row_of

WIDTHS = (3, 3, 4, 3)
ORDERED_BY = ("p", "time", "id", "id")


class Model:
    """Each thing is a dict; each chain a list of such, ordered by nothing but where they are put in."""

    def __init__(self):
        self.clock = 0
        self.chains = [[], [], [], []]

    def answer(self, place, numbers):
        """The answer to a call; joinall's and load's numbers are their row."""
        alone = {13: self.ready, 14: self.first, 15: self.turn, 20: self.sizes, 21: self.next, 22: self.told,
                 24: self.clear}
        if place in alone:
            return alone[place]()
        if place == 1:
            return self.joinall(numbers)
        if place == 23:
            return self.load(numbers)
        others = {0: self.join, 16: self.until, 17: self.slip, 18: self.where, 19: self.chain}
        if place in others:
            return others[place](*numbers)
        return self.move(place, *numbers)

    def find(self, number):
        for chain, things in enumerate(self.chains):
            for thing in things:
                if thing["id"] == number:
                    return chain, thing
        return None, None

    def take(self, thing):
        self.chains = [[one for one in things if one["id"] != thing["id"]] for things in self.chains]

    def put(self, chain, thing, front=False):
        self.take(thing)
        name = ORDERED_BY[chain]
        sign = -1 if chain == 0 else 1
        ahead = [one for one in self.chains[chain] if sign * one[name] < sign * thing[name]]
        same = [one for one in self.chains[chain] if one[name] == thing[name]]
        behind = [one for one in self.chains[chain] if sign * one[name] > sign * thing[name]]
        self.chains[chain] = ahead + ([thing] + same if front else same + [thing]) + behind

    def join(self, number, p):
        if not 1 <= number <= 10 ** 9:
            return [-1]
        if not -1000 <= p <= 1000:
            return [-2]
        if self.find(number)[1]:
            return [-3]
        if sum(len(things) for things in self.chains) == 2000:
            return [-4]
        self.put(0, {"id": number, "p": p, "holds": 0, "time": 0})
        return [0]

    def joinall(self, row):
        if len(row) % 2:
            return [-15]
        before = self.chains
        for place in range(0, len(row), 2):
            answer = self.join(row[place], row[place + 1])
            if answer != [0]:
                self.chains = before
                return answer
        return [0]

    def move(self, place, number, value=None):
        """The calls 2 to 12."""
        chain, thing = self.find(number)
        if thing is None:
            return [-5]
        if place == 3:
            if not self.clock <= value <= min(END, self.clock + FAR):
                return [-6]
            place, value = 2, value - self.clock
        if place in (2, 4) and not 0 <= value <= FAR:
            return [-6]
        if place == 8 and not -1000 <= value <= 1000:
            return [-2]
        wrong = {2: (1, 2), 4: (0, 3), 5: (3,), 6: (0, 1, 2), 11: (3,), 12: (2, 3)}
        if chain in wrong.get(place, ()):
            return [-7]
        if place == 9 and thing["holds"] == 1000:
            return [-16]
        if place == 10 and thing["holds"] == 0:
            return [-10]
        return self.do(place, chain, thing, value)

    def do(self, place, chain, thing, value):
        left = {1: thing["time"] - self.clock, 2: thing["time"]}.get(chain, 0)
        goes = None
        if place in (2, 4):
            goes = 2 if thing["holds"] else 1
            left = value
        elif place == 5:
            goes = 3
        elif place == 6 or (place == 11 and chain in (1, 2)):
            goes = 0
        elif place == 7:
            self.take(thing)
        elif place == 8:
            thing["p"] = value
            goes = 0 if chain == 0 else None
        elif place == 9:
            thing["holds"] += 1
            goes = 2 if chain == 1 else None
        elif place == 10:
            thing["holds"] -= 1
            goes = 1 if chain == 2 and thing["holds"] == 0 else None
        elif place == 12:
            self.put(chain, thing, front=True)
        if goes is not None:
            thing["time"] = (0, self.clock + left, left, 0)[goes]
            self.put(goes, thing)
        return [0, left] if place == 11 else [0]

    def ready(self):
        ids = [thing["id"] for thing in self.chains[0] if thing["holds"] == 0]
        return [0, len(ids)] + ids

    def first(self):
        return [0, (self.ready()[2:] + [0])[0]]

    def dues(self):
        return [thing["time"] for thing in self.chains[1]]

    def turn(self):
        if not self.dues():
            return [-11]
        least = min(self.dues())
        if least > END:
            return [-12]
        self.clock = least
        came = [thing for thing in self.chains[1] if thing["time"] == least]
        for thing in came:
            thing["time"] = 0
            self.put(0, thing)
        return [0, least, len(came)] + [thing["id"] for thing in came]

    def until(self, time):
        if not self.clock <= time <= END:
            return [-6]
        turns = 0
        came = []
        while any(due <= time for due in self.dues()):
            turns += 1
            came += self.turn()[3:]
        self.clock = time
        return [0, turns, len(came)] + came

    def slip(self, wait):
        if not 0 <= wait <= FAR:
            return [-6]
        if any(due + wait > self.clock + FAR for due in self.dues()):
            return [-12]
        for thing in self.chains[1]:
            thing["time"] += wait
        return [0]

    def where(self, number):
        chain, thing = self.find(number)
        if thing is None:
            return [-5]
        ids = [one["id"] for one in self.chains[chain]]
        return [0, chain, thing["p"], thing["holds"], thing["time"], ids.index(number)]

    def chain(self, chain):
        if chain not in (0, 1, 2, 3):
            return [-13]
        return [0, len(self.chains[chain])] + [thing["id"] for thing in self.chains[chain]]

    def sizes(self):
        return [0, self.clock] + [len(things) for things in self.chains]

    def next(self):
        if not self.dues():
            return [-11]
        return [0, min(self.dues()), self.dues().count(min(self.dues()))]

    def told(self):
        names = (("id", "p", "holds"), ("id", "p", "time"), ("id", "p", "holds", "time"), ("id", "p", "holds"))
        row = row_of(self.clock, *[[[thing[name] for name in names[chain]] for thing in things]
                                   for chain, things in enumerate(self.chains)])
        return [0, len(row)] + row

    def load(self, row):
        if not can_be_told(row):
            return [-14]
        self.clock = row[0]
        self.chains = []
        for chain, things in enumerate(things_in(row)):
            self.chains.append([{
                "id": thing[0], "p": thing[1], "holds": 0 if chain == 1 else thing[2],
                "time": thing[-1] if chain in (1, 2) else 0,
            } for thing in things])
        return [0]

    def clear(self):
        self.__init__()
        return [0]


def things_in(row):
    """The things of each of the four chains that a row tells, or None if it has not that form."""
    rest = row[1:]
    chains = []
    for width in WIDTHS:
        if not rest or rest[0] < 0 or rest[0] * width > len(rest) - 1:
            return None
        length = rest[0] * width
        chains.append([tuple(rest[1 + place:1 + place + width]) for place in range(0, length, width)])
        rest = rest[1 + length:]
    return None if rest else chains


def can_be_told(row):
    """Whether all that is told of the state holds of what the row tells."""
    if not row or not 0 <= row[0] <= END or things_in(row) is None:
        return False
    clock = row[0]
    current, future, frozen, asleep = things_in(row)
    everything = current + future + frozen + asleep
    ids = [thing[0] for thing in everything]
    holds = [thing[2] for thing in current + frozen + asleep]
    return all((
        len(ids) <= 2000,
        len(ids) == len(set(ids)),
        all(1 <= number <= 10 ** 9 for number in ids),
        all(-1000 <= thing[1] <= 1000 for thing in everything),
        all(0 <= count <= 1000 for count in holds),
        all(thing[2] > 0 for thing in frozen),
        all(0 <= thing[3] <= FAR for thing in frozen),
        all(clock <= thing[2] <= clock + FAR for thing in future),
        [thing[1] for thing in current] == sorted([thing[1] for thing in current], reverse=True),
        [thing[2] for thing in future] == sorted([thing[2] for thing in future]),
        frozen == sorted(frozen),
        asleep == sorted(asleep),
    ))


PLACES = [0] * 6 + [1] + [2] * 6 + [3] * 4 + [4] * 4 + [5] * 3 + [6] * 3 + [7] + [8] * 4 + [9] * 6 + [10] * 6
PLACES += [11] * 3 + [12] * 5 + [13, 14] + [15] * 5 + [16] * 4 + [17] * 3 + [18] * 2 + [19] * 2 + [20, 21, 22]
PLACES += [23] * 3 + [24]


class Source:
    """Calls on few ids, priorities and times, so that equals and refusals are frequent."""

    def __init__(self, seed):
        self.random = random.Random(seed)

    def pick(self, *choices):
        return self.random.choice(choices)

    def number(self):
        return self.pick(-OUT, 0, 10 ** 9 + 1, OUT) if self.random.random() < 0.03 else self.random.randint(1, 14)

    def priority(self):
        return self.pick(-OUT, -1001, 1001, OUT) if self.random.random() < 0.05 else self.pick(-1000, -1, 0, 0, 1, 1000)

    def wait(self):
        rare = (-OUT, -1, FAR - 1, FAR, FAR + 1, OUT)
        return self.pick(*rare) if self.random.random() < 0.15 else self.pick(0, 1, 1, 2, 2, 3)

    def row(self, model):
        """A row for load: of a state that may be, of the state that is, or of neither."""
        row = model.told()[2:] if self.random.random() < 0.4 else self.any_state()
        if self.random.random() < 0.4:
            for _ in range(self.random.randint(1, 2)):
                self.spoil(row)
        return row

    def any_state(self):
        clock = self.pick(0, 7, 1000, END - FAR, END - 3, END - 1, END)
        ids = self.random.sample(range(1, 15), self.random.randint(0, 12))
        chains = [[], [], [], []]
        for number in ids:
            chain = self.random.randint(0, 3)
            p = self.pick(-1000, -1, 0, 0, 1, 1000)
            holds = self.pick(1, 1, 2, 1000) if chain == 2 else self.pick(0, 0, 0, 1, 999, 1000)
            time = self.pick(0, 1, 1, 2, 3, FAR)
            chains[chain].append([(number, p, holds), (number, p, clock + time), (number, p, holds, time),
                                  (number, p, holds)][chain])
        return row_of(clock, sorted(chains[0], key=lambda thing: -thing[1]),
                      sorted(chains[1], key=lambda thing: thing[2]), sorted(chains[2]), sorted(chains[3]))

    def spoil(self, row):
        place = self.random.randint(0, len(row))
        way = self.random.randint(0, 4)
        if way == 0:
            row.insert(place, self.pick(-1, 0, 1, 2))
        elif place < len(row) and way == 1:
            row.pop(place)
        elif place < len(row) and way == 2:
            row[place] = self.pick(-OUT, -1, 0, 1, 2, 1001, FAR + 1, END + 1, OUT)
        elif place < len(row):
            row[place] += self.pick(-1, 1)

    def call(self, model):
        """A place and its numbers, or its row."""
        place = self.random.choice(PLACES)
        if place in (0, 8):
            return place, [self.number(), self.priority()]
        if place == 1:
            pairs = [number for _ in range(self.random.randint(0, 3)) for number in (self.number(), self.priority())]
            return place, pairs + [1] * (self.random.random() < 0.1)
        if place in (2, 4):
            return place, [self.number(), self.wait()]
        if place == 3:
            return place, [self.number(), self.pick(END, END + 1, *[model.clock + self.wait()] * 8)]
        if place in (5, 6, 7, 9, 10, 11, 12, 18):
            return place, [self.number()]
        if place == 16:
            return place, [self.pick(END, END + 1, model.clock - 1, *[model.clock + self.wait()] * 40)]
        if place == 17:
            return place, [self.wait()]
        if place == 19:
            return place, [self.pick(-OUT, -1, 0, 0, 1, 1, 1, 2, 3, 4, OUT)]
        if place == 23:
            return place, self.row(model)
        return place, []


def written(place, numbers):
    """A call as it stands in the list."""
    return [place, len(numbers)] + numbers if place in (1, 23) else [place] + numbers


# Each call with each first answer that it can have; those of a full calendar have tests of their own.
SEEN = {
    0: (0, -1, -2, -3), 1: (0, -1, -2, -3, -15), 2: (0, -5, -6, -7), 3: (0, -5, -6, -7), 4: (0, -5, -6, -7),
    5: (0, -5, -7), 6: (0, -5, -7), 7: (0, -5), 8: (0, -5, -2), 9: (0, -5, -16), 10: (0, -5, -10), 11: (0, -5, -7),
    12: (0, -5, -7), 13: (0,), 14: (0,), 15: (0, -11, -12), 16: (0, -6), 17: (0, -6, -12), 18: (0, -5), 19: (0, -13),
    20: (0,), 21: (0, -11), 22: (0,), 23: (0, -14), 24: (0,),
}


class AgainstTheModel(unittest.TestCase):
    def compare(self, calls, expected, seed):
        """Call by call, so that the first one that differs is named."""
        answered = answers([number for call in calls for number in written(*call)])
        start = 0
        for place, (call, answer) in enumerate(zip(calls, expected)):
            end = start + 1 + answered[start]
            self.assertEqual(answered[start + 1:end], answer, (seed, place, call))
            start = end
        self.assertEqual(start, len(answered), seed)

    def test_mixed_lists(self):
        seen = {place: set() for place in range(25)}
        for seed in range(400):
            source = Source(seed)
            model = Model()
            calls = []
            expected = []
            for _ in range(source.random.randint(100, 119)):
                place, numbers = source.call(model)
                calls.append((place, numbers))
                expected.append(model.answer(place, numbers))
                seen[place].add(expected[-1][0])
            calls.append((22, []))
            expected.append(model.told())
            self.compare(calls, expected, seed)
        self.assertEqual(seen, {place: set(firsts) for place, firsts in SEEN.items()})

    def test_told_after_each_call(self):
        for seed in range(1000, 1150):
            source = Source(seed)
            model = Model()
            calls = []
            expected = []
            for _ in range(60):
                call = source.call(model)
                calls += [call, (22, [])]
                expected += [model.answer(*call), model.told()]
                self.assertTrue(can_be_told(expected[-1][2:]), (seed, call))
            self.compare(calls, expected, seed)

    def test_spoilt_rows(self):
        """load takes just those rows of which all that the document says of a state holds."""
        taken = []
        for seed in range(2000, 2080):
            source = Source(seed)
            model = Model()
            calls = []
            expected = []
            for _ in range(60):
                row = source.any_state()
                source.spoil(row)
                calls += [(23, row), (22, [])]
                expected += [model.load(row), model.told()]
                taken.append(expected[-2] == [0])
            self.compare(calls, expected, seed)
        self.assertGreater(taken.count(True), 500)
        self.assertGreater(taken.count(False), 500)


class TheModelItself(unittest.TestCase):
    """The model's own judge of rows, at rows that are plain to see."""

    def test_rows(self):
        self.assertTrue(can_be_told(row_of(5, [(2, 1, 0), (1, 0, 3)], [(3, 0, 5)], [(4, 0, 1, 0)], [(5, 0, 0)])))
        for row in ([], [5], row_of(-1), row_of(0, [(1, 0, 0), (2, 1, 0)]), row_of(5, [], [(3, 0, 4)]),
                    row_of(0, frozen=[(1, 0, 0, 0)]), row_of(0, [(1, 0, 0)], asleep=[(1, 0, 0)])):
            self.assertFalse(can_be_told(row), load_of(row))


if __name__ == "__main__":
    unittest.main()
