"""load (23), at every way in which a row is or is not a list that told could answer, and clear (24)."""

import unittest

from tests.helper import END, FAR, OUT, CallsCase, last_answer, load_of, row_of, run, told_of

# What is there before a load, so that a refused one can be seen to change nothing.
BEFORE = row_of(
    40,
    current=[(7, 9, 0), (3, 9, 2), (1, -9, 0)],
    future=[(12, 0, 40), (11, 0, 90)],
    frozen=[(21, 5, 1, 7), (22, 5, 3, 0)],
    asleep=[(31, 0, 0), (32, 0, 9)],
)

# Of every chain some, in an order that is right; each test below spoils one thing of it.
GOOD = {
    "clock": 100,
    "current": [(5, 9, 0), (2, 9, 1000), (8, 0, 0), (1, 0, 5), (9, -9, 0)],
    "future": [(15, 0, 100), (14, 1, 130), (12, -1, 130), (19, 0, 100 + FAR)],
    "frozen": [(20, 0, 1, 0), (23, 0, 1000, FAR), (29, 3, 2, 8)],
    "asleep": [(3, 0, 0), (30, 0, 1000), (31, 5, 0)],
}

GREATEST = 10 ** 9


def good_with(**changes):
    """The good row with some of its parts changed."""
    return row_of(**dict(GOOD, **changes))


class LoadCase(CallsCase):
    def taken(self, row):
        """load is done from any state, and the state is the one told; the row that told answers does the same."""
        self.on(BEFORE, load_of(row), "0", row)
        self.answered(load_of(row) + " | 22", "0 | " + told_of(row))
        again = "23 " + last_answer(load_of(row) + " | 22").split(" ", 1)[1]
        self.answered(again + " | 22", "0 | " + told_of(row))

    def spoilt(self, row):
        """load is refused and nothing is changed."""
        self.refused(BEFORE, load_of(row), -14)
        self.answered(load_of(row) + " | 22", "-14 | 0 5 0 0 0 0 0")


class Taken(LoadCase):
    def test_each_kind_of_state(self):
        self.taken(row_of(0))
        self.taken(row_of(77))
        self.taken(row_of(0, current=[(1, 5, 0)]))
        self.taken(row_of(3, future=[(1, 5, 3)]))
        self.taken(row_of(3, frozen=[(1, 5, 1, 0)]))
        self.taken(row_of(3, asleep=[(1, 5, 0)]))
        self.taken(BEFORE)
        self.taken(good_with())

    def test_loaded_twice(self):
        self.on(BEFORE, f"{load_of(good_with())} | {load_of(BEFORE)}", "0 | 0", BEFORE)

    def test_what_was_there_is_gone(self):
        self.on(BEFORE, load_of(row_of(5)) + " | 18 7 | 18 12 | 18 21 | 18 31 | 0 7 1", "0 | -5 | -5 | -5 | -5 | 0",
                row_of(5, current=[(7, 1, 0)]))

    def test_a_lesser_clock(self):
        self.on(row_of(END), load_of(row_of(0)) + " | 16 3", "0 | 0 0 0", row_of(3))

    def test_calls_go_on_from_it(self):
        self.on(BEFORE, load_of(good_with()) + " | 15 | 14 | 10 20 | 6 3 | 18 3 | 11 29", "0 | 0 100 1 15 | 0 5 | 0 | 0"
                " | 0 0 0 0 0 5 | 0 8", good_with(
            current=[(5, 9, 0), (2, 9, 1000), (29, 3, 2), (8, 0, 0), (1, 0, 5), (15, 0, 0), (3, 0, 0), (9, -9, 0)],
            future=[(20, 0, 100), (14, 1, 130), (12, -1, 130), (19, 0, 100 + FAR)],
            frozen=[(23, 0, 1000, FAR)],
            asleep=[(30, 0, 1000), (31, 5, 0)],
        ))

    def test_last_numbers_that_are_taken(self):
        self.taken(row_of(0, current=[(1, 1000, 0), (GREATEST, -1000, 1000)]))
        self.taken(row_of(0, future=[(1, 1000, 0), (GREATEST, -1000, FAR)]))
        self.taken(row_of(0, frozen=[(1, 1000, 1, 0), (GREATEST, -1000, 1000, FAR)]))
        self.taken(row_of(0, asleep=[(1, 1000, 0), (GREATEST, -1000, 1000)]))

    def test_clock_at_the_end_and_dues_above_it(self):
        self.taken(row_of(END))
        self.taken(row_of(END, future=[(1, 0, END), (2, 0, END + 1), (3, 0, END + FAR)]))
        self.taken(row_of(END - 1, future=[(3, 0, END - 1), (2, 0, END + FAR - 1)]))

    def test_2000_things(self):
        ids = list(range(1, 2001))
        self.taken(row_of(9, current=[(number, 0, 0) for number in ids]))
        self.taken(row_of(9, future=[(number, 0, 9) for number in reversed(ids)]))
        self.taken(row_of(9, asleep=[(number, 0, 0) for number in ids]))
        self.taken(self.in_four(ids))

    def test_2000_frozen(self):
        row = row_of(9, frozen=[(number, 0, 1, 9) for number in range(1, 2001)])
        self.answered(load_of(row) + " | 22", "0 | " + told_of(row))

    def in_four(self, ids):
        return row_of(
            9,
            [(number, 0, 0) for number in ids[:500]],
            [(number, 0, 9) for number in ids[500:1000]],
            [(number, 0, 1, 0) for number in ids[1000:1500]],
            [(number, 0, 0) for number in ids[1500:]],
        )

    def test_2001_things(self):
        ids = list(range(1, 2002))
        self.spoilt(row_of(9, current=[(number, 0, 0) for number in ids]))
        self.spoilt(row_of(9, future=[(number, 0, 9) for number in ids]))
        self.spoilt(row_of(9, frozen=[(number, 0, 1, 0) for number in ids]))
        self.spoilt(row_of(9, asleep=[(number, 0, 0) for number in ids]))
        self.spoilt(self.in_four(ids))

    def test_those_known_before_do_not_count(self):
        row = row_of(9, asleep=[(number, 0, 0) for number in range(1, 2001)])
        self.answered(f"{load_of(row)} | {load_of(row)} | 20", "0 | 0 | 0 9 0 0 0 2000")


class Form(LoadCase):
    def test_empty_row(self):
        self.spoilt([])

    def test_clock(self):
        for clock in (-OUT, -1, END + 1, OUT):
            self.spoilt(row_of(clock))
        self.taken(row_of(0))
        self.taken(row_of(END))

    def test_missing_counts(self):
        for length in range(1, 5):
            self.spoilt([0] * length)
        self.taken([0] * 5)

    def test_cut_off_anywhere(self):
        row = good_with()
        for length in range(len(row)):
            self.refused(BEFORE, load_of(row[:length]), -14)

    def test_something_behind(self):
        for number in (0, 1, -1, OUT):
            self.spoilt(row_of(0) + [number])
            self.spoilt(good_with() + [number])
        self.spoilt(row_of(0) + [5, 5, 0])

    def test_counts_below_0(self):
        for count in (-1, -2, -OUT):
            for place in range(1, 5):
                row = row_of(0)
                row[place] = count
                self.spoilt(row)

    def test_a_count_below_0_with_things_behind(self):
        self.spoilt([0, -1, 0, 0, 0, 0, 0])
        self.spoilt([0, 1, 1, 5, 0, -1, 0, 0])
        self.spoilt([0, 0, 0, 0, -1, 1, 5, 0])

    def test_counts_greater_than_what_follows(self):
        for count in (1, 2, 3, 2000, 10000, OUT):
            for place in range(1, 5):
                row = row_of(0)
                row[place] = count
                self.spoilt(row)

    def test_one_count_off(self):
        row = good_with()
        for place in (1, 17, 30, 43):
            self.assertIn(row[place], (5, 4, 3))
            for step in (-1, 1):
                other = list(row)
                other[place] += step
                self.spoilt(other)

    def test_a_thing_not_whole(self):
        self.spoilt([0, 1, 1, 5])
        self.spoilt([0, 0, 1, 1, 5])
        self.spoilt([0, 0, 0, 1, 1, 5, 1])
        self.spoilt([0, 0, 0, 0, 1, 1])
        self.spoilt([0, 0, 0, 0, 1, 1, 5])

    def test_longest_row(self):
        self.spoilt([0] * 10000)
        self.spoilt([0, 3331] + [1] * 9998)
        row = row_of(0, asleep=[(number, 0, 0) for number in range(1, 3332)])
        self.assertEqual(len(row), 9998)
        self.refused(BEFORE, load_of(row), -14)

    def test_with_the_length_before_it(self):
        self.spoilt([5] + row_of(0))
        self.spoilt([len(good_with())] + good_with())


class Ranges(LoadCase):
    """One below and one above, on each chain, alone and among others."""

    def test_ids(self):
        for number in (-OUT, -1, 0, GREATEST + 1, OUT):
            self.spoilt(row_of(0, current=[(number, 0, 0)]))
            self.spoilt(row_of(0, future=[(number, 0, 0)]))
            self.spoilt(row_of(0, frozen=[(number, 0, 1, 0)]))
            self.spoilt(row_of(0, asleep=[(number, 0, 0)]))
        for number in (1, GREATEST):
            self.taken(row_of(0, current=[(number, 0, 0)]))
            self.taken(row_of(0, future=[(number, 0, 0)]))
            self.taken(row_of(0, frozen=[(number, 0, 1, 0)]))
            self.taken(row_of(0, asleep=[(number, 0, 0)]))

    def test_priorities(self):
        for priority in (-OUT, -1001, 1001, OUT):
            self.spoilt(row_of(0, current=[(1, priority, 0)]))
            self.spoilt(row_of(0, future=[(1, priority, 0)]))
            self.spoilt(row_of(0, frozen=[(1, priority, 1, 0)]))
            self.spoilt(row_of(0, asleep=[(1, priority, 0)]))
        for priority in (-1000, 1000):
            self.taken(row_of(0, current=[(1, priority, 0)]))
            self.taken(row_of(0, future=[(1, priority, 0)]))
            self.taken(row_of(0, frozen=[(1, priority, 1, 0)]))
            self.taken(row_of(0, asleep=[(1, priority, 0)]))

    def test_holds(self):
        for holds in (-OUT, -1, 1001, OUT):
            self.spoilt(row_of(0, current=[(1, 0, holds)]))
            self.spoilt(row_of(0, frozen=[(1, 0, holds, 0)]))
            self.spoilt(row_of(0, asleep=[(1, 0, holds)]))
        for holds in (0, 1000):
            self.taken(row_of(0, current=[(1, 0, holds)]))
            self.taken(row_of(0, asleep=[(1, 0, holds)]))

    def test_holds_of_the_frozen(self):
        self.spoilt(row_of(0, frozen=[(1, 0, 0, 5)]))
        self.spoilt(good_with(frozen=[(20, 0, 1, 0), (23, 0, 0, 9)]))
        for holds in (1, 1000):
            self.taken(row_of(0, frozen=[(1, 0, holds, 5)]))

    def test_rests(self):
        for rest in (-OUT, -1, FAR + 1, OUT):
            self.spoilt(row_of(0, frozen=[(1, 0, 1, rest)]))
            self.spoilt(row_of(100, frozen=[(1, 0, 1, 0), (2, 0, 1, rest)]))
        for rest in (0, FAR):
            self.taken(row_of(100, frozen=[(1, 0, 1, rest)]))

    def test_dues(self):
        for clock in (0, 100, END - 1, END):
            for due in (-OUT, clock - 1, clock + FAR + 1, OUT):
                self.spoilt(row_of(clock, future=[(1, 0, due)]))
            for due in (clock, clock + FAR):
                self.taken(row_of(clock, future=[(1, 0, due)]))
        self.spoilt(good_with(future=[(15, 0, 99), (14, 0, 130)]))
        self.spoilt(good_with(future=[(15, 0, 100), (14, 0, 101 + FAR)]))

    def test_the_first_and_the_last_thing(self):
        for name, bad in (("current", (40, 1001, 0)), ("current", (40, -1001, 0)), ("future", (40, 0, 99)),
                          ("future", (40, 0, 101 + FAR)), ("frozen", (19, 0, 0, 0)), ("frozen", (40, 0, 1001, 0)),
                          ("asleep", (2, 0, -1)), ("asleep", (40, 0, 1001))):
            self.spoilt(good_with(**{name: [bad] + GOOD[name]}))
            self.spoilt(good_with(**{name: GOOD[name] + [bad]}))


class Ids(LoadCase):
    def test_twice_on_one_chain(self):
        self.spoilt(row_of(0, current=[(1, 0, 0), (1, 0, 0)]))
        self.spoilt(row_of(0, current=[(1, 9, 0), (2, 5, 0), (1, 0, 0)]))
        self.spoilt(row_of(0, future=[(1, 0, 5), (1, 0, 5)]))
        self.spoilt(row_of(0, future=[(1, 0, 5), (2, 0, 6), (1, 0, 7)]))
        self.spoilt(row_of(0, frozen=[(1, 0, 1, 5), (1, 0, 1, 5)]))
        self.spoilt(row_of(0, asleep=[(1, 0, 0), (1, 0, 0)]))

    def test_twice_on_two_chains(self):
        one = {"current": (1, 0, 0), "future": (1, 0, 5), "frozen": (1, 0, 1, 5), "asleep": (1, 0, 0)}
        for first in one:
            self.taken(row_of(0, **{first: [one[first]]}))
            for second in one:
                if first != second:
                    self.spoilt(row_of(0, **{first: [one[first]], second: [one[second]]}))

    def test_ids_that_were_known_before(self):
        self.taken(row_of(0, current=[(31, 0, 0)], asleep=[(7, 0, 0)]))


class Orders(LoadCase):
    def test_current(self):
        self.spoilt(row_of(0, current=[(1, 5, 0), (2, 6, 0)]))
        self.spoilt(row_of(0, current=[(1, -1000, 0), (2, 1000, 0)]))
        self.spoilt(row_of(0, current=[(1, 9, 0), (2, 5, 0), (3, 6, 0)]))
        self.spoilt(row_of(0, current=[(1, 5, 0), (2, 6, 0), (3, 4, 0)]))
        self.taken(row_of(0, current=[(1, 6, 0), (2, 5, 0)]))
        self.taken(row_of(0, current=[(2, 6, 0), (1, 5, 0)]))

    def test_future(self):
        self.spoilt(row_of(0, future=[(1, 0, 6), (2, 0, 5)]))
        self.spoilt(row_of(0, future=[(1, 0, 1), (2, 0, 6), (3, 0, 5)]))
        self.spoilt(row_of(0, future=[(1, 0, 6), (2, 0, 5), (3, 0, 7)]))
        self.taken(row_of(0, future=[(1, 0, 5), (2, 0, 6)]))
        self.taken(row_of(0, future=[(2, -9, 5), (1, 9, 6)]))

    def test_frozen(self):
        self.spoilt(row_of(0, frozen=[(2, 0, 1, 5), (1, 0, 1, 5)]))
        self.spoilt(row_of(0, frozen=[(1, 0, 1, 5), (3, 0, 1, 5), (2, 0, 1, 5)]))
        self.taken(row_of(0, frozen=[(1, 0, 9, 9), (2, 9, 1, 5), (3, -9, 3, 7)]))

    def test_asleep(self):
        self.spoilt(row_of(0, asleep=[(2, 0, 0), (1, 0, 0)]))
        self.spoilt(row_of(0, asleep=[(1, 0, 0), (3, 0, 0), (2, 0, 0)]))
        self.taken(row_of(0, asleep=[(1, 0, 9), (2, 9, 1), (3, -9, 3)]))

    def test_equals_in_either_order(self):
        self.taken(row_of(0, current=[(1, 5, 0), (2, 5, 1)]))
        self.taken(row_of(0, current=[(2, 5, 1), (1, 5, 0)]))
        self.taken(row_of(0, future=[(1, 5, 7), (2, 9, 7)]))
        self.taken(row_of(0, future=[(2, 9, 7), (1, 5, 7)]))

    def test_each_chain_has_its_own(self):
        self.taken(row_of(0, [(9, -5, 0)], [(8, 5, 3)], [(7, 9, 1, 2)], [(6, 10, 0)]))


class ToldAndLoaded(LoadCase):
    """What told answers after calls is taken by load, and told again alike."""

    CALLS = ("1 16 1 5 2 5 3 9 4 -1 5 0 6 0 7 5 8 5", "9 3", "16 10", "2 1 30", "2 2 20", "2 4 20", "9 1", "5 5", "9 5",
             "5 6", "12 8", "12 4", "15", "17 9", "10 1", "3 7 55", "16 39", "8 2 1000", "9 7", "11 1", "7 6", "24")

    def test_after_each_call(self):
        for count in range(1, len(self.CALLS) + 1):
            calls = " | ".join(self.CALLS[:count])
            answer = run(calls + " | 22").split(" | ")[-1]
            row = [int(word) for word in answer.split()[2:]]
            self.assertEqual(answer, told_of(row))
            self.taken(row)
            self.answered(f"{load_of(row)} | 20 | 13 | 19 1",
                          "0 | " + " | ".join(run(calls + " | 20 | 13 | 19 1").split(" | ")[-3:]))


class Clear(CallsCase):
    def test_on_a_new_calendar(self):
        self.answered("24 | 22", "0 | 0 5 0 0 0 0 0")

    def test_all_as_at_the_beginning(self):
        self.on(BEFORE, "24", "0", row_of(0))
        self.on(row_of(END), "24", "0", row_of(0))
        self.on(BEFORE, "24 | 20 | 13 | 14 | 15 | 21 | 18 7", "0 | 0 0 0 0 0 0 | 0 0 | 0 0 | -11 | -11 | -5", row_of(0))

    def test_what_was_known_can_join_again(self):
        self.on(BEFORE, "24 | 0 7 1 | 0 12 2 | 1 4 21 3 31 4 | 10 3 | 10 21", "0 | 0 | 0 | 0 | -5 | -10",
                row_of(0, current=[(31, 4, 0), (21, 3, 0), (12, 2, 0), (7, 1, 0)]))

    def test_2000_can_join_again(self):
        full = "1 4000 " + " ".join([f"{number} 0" for number in range(1, 2001)])
        self.answered(f"{full} | 0 2001 0 | 24 | {full} | 20", "0 | -4 | 0 | 0 | 0 0 2000 0 0 0")

    def test_times_begin_at_0_again(self):
        self.on(row_of(500), "24 | 0 1 0 | 3 1 0 | 16 0", "0 | 0 | 0 | 0 1 1 1", row_of(0, current=[(1, 0, 0)]))

    def test_twice(self):
        self.on(BEFORE, "24 | 24", "0 | 0", row_of(0))


if __name__ == "__main__":
    unittest.main()
