"""The calls of the clock and the dues: turn (15), until (16), slip (17) and next (21)."""

import unittest

from tests.helper import CURRENT, END, FAR, FUTURE, OUT, CallsCase, load_of, row_of, run

# Equals of every kind: priorities on the current chain, dues on the future chain, and one priority across chains.
MIXED = row_of(
    100,
    current=[(1, 9, 0), (2, 5, 0), (3, 5, 1), (4, 0, 0)],
    future=[(12, 5, 120), (10, 9, 120), (11, 5, 120), (13, -1, 120), (5, 5, 121), (15, 9, 130), (14, 5, 130)],
    frozen=[(20, 5, 1, 20)],
    asleep=[(21, 5, 0)],
)
AFTER_TURN = row_of(
    120,
    current=[(1, 9, 0), (10, 9, 0), (2, 5, 0), (3, 5, 1), (12, 5, 0), (11, 5, 0), (4, 0, 0), (13, -1, 0)],
    future=[(5, 5, 121), (15, 9, 130), (14, 5, 130)],
    frozen=[(20, 5, 1, 20)],
    asleep=[(21, 5, 0)],
)

# Nothing waits on the future chain, though there are things on each other chain.
NO_FUTURE = row_of(7, current=[(1, 5, 0)], frozen=[(2, 5, 1, 30)], asleep=[(3, 5, 0)])


def one_due(clock, due):
    return row_of(clock, future=[(1, 0, due)])


def one_current(clock):
    return row_of(clock, current=[(1, 0, 0)])


class Turn(CallsCase):
    def test_one(self):
        self.answered("0 1 5 | 2 1 30 | 15 | 20 | 22",
                      "0 | 0 | 0 30 1 1 | 0 30 1 0 0 0 | 0 8 30 1 1 5 0 0 0 0")

    def test_nothing_waits(self):
        self.answered("15 | 20", "-11 | 0 0 0 0 0 0")
        self.answered("0 1 5 | 15 | 20", "0 | -11 | 0 0 1 0 0 0")
        self.refused(NO_FUTURE, "15", -11)
        self.refused(row_of(END), "15", -11)

    def test_till_nothing_waits(self):
        self.answered("1 4 1 5 2 5 | 2 1 30 | 2 2 20 | 15 | 15 | 15 | 20",
                      "0 | 0 | 0 | 0 20 1 2 | 0 30 1 1 | -11 | 0 30 2 0 0 0")

    def test_several_come_in_order_behind_their_equals(self):
        self.on(MIXED, "15", "0 120 4 12 10 11 13", AFTER_TURN)

    def test_several_turns(self):
        self.on(MIXED, "15 | 15 | 15 | 15", "0 120 4 12 10 11 13 | 0 121 1 5 | 0 130 2 15 14 | -11", row_of(
            130,
            current=[(1, 9, 0), (10, 9, 0), (15, 9, 0), (2, 5, 0), (3, 5, 1), (12, 5, 0), (11, 5, 0), (5, 5, 0),
                     (14, 5, 0), (4, 0, 0), (13, -1, 0)],
            frozen=[(20, 5, 1, 20)],
            asleep=[(21, 5, 0)],
        ))

    def test_they_come_in_the_order_of_the_future_chain(self):
        calls = "1 8 1 0 2 0 3 0 4 0 | 2 3 7 | 2 1 7 | 2 4 7 | 2 2 7"
        self.after(calls + " | 15", "0 7 4 3 1 4 2")
        self.chain_after(calls + " | 15", CURRENT, [3, 1, 4, 2])
        self.after(calls + " | 12 2 | 15", "0 7 4 2 3 1 4")
        self.chain_after(calls + " | 12 2 | 15", CURRENT, [2, 3, 1, 4])

    def test_a_due_at_the_clock(self):
        self.answered("0 1 5 | 2 1 0 | 15 | 20", "0 | 0 | 0 0 1 1 | 0 0 1 0 0 0")
        self.on(row_of(100, future=[(1, 0, 100), (2, 0, 101)]), "15", "0 100 1 1",
                row_of(100, current=[(1, 0, 0)], future=[(2, 0, 101)]))

    def test_what_came_has_no_due(self):
        self.on(one_due(100, 120), "15 | 18 1 | 11 1 | 2 1 7 | 18 1",
                "0 120 1 1 | 0 0 0 0 0 0 | 0 0 | 0 | 0 1 0 0 127 0", one_due(120, 127))

    def test_least_due_at_the_end(self):
        for clock in (END - FAR, END - 1, END):
            self.on(one_due(clock, END), "15", f"0 {END} 1 1", one_current(END))

    def test_least_due_above_the_end(self):
        for clock in (END - FAR + 1, END - 1, END):
            self.refused(one_due(clock, END + 1), "15", -12)
        self.refused(one_due(END, END + FAR), "15", -12)

    def test_only_the_least_due_counts(self):
        self.on(row_of(END - 1, future=[(1, 0, END), (2, 0, END + 1)]), "15 | 15", f"0 {END} 1 1 | -12",
                row_of(END, current=[(1, 0, 0)], future=[(2, 0, END + 1)]))

    def test_as_far_as_may_be(self):
        self.on(one_due(5, 5 + FAR), "15", f"0 {5 + FAR} 1 1", one_current(5 + FAR))

    def test_2000_of_one_due(self):
        future = [(number, number % 3, 50) for number in range(2000, 0, -1)]
        ids = " ".join([str(thing[0]) for thing in future])
        current = [(number, priority, 0) for number, priority, due in sorted(future, key=lambda thing: -thing[1])]
        self.on(row_of(0, future=future), "15", f"0 50 2000 {ids}", row_of(50, current=current))


class Until(CallsCase):
    def test_nothing_is_known(self):
        self.answered("16 0 | 20 | 16 50 | 20", "0 0 0 | 0 0 0 0 0 0 | 0 0 0 | 0 50 0 0 0 0")

    def test_range(self):
        self.answered(f"16 -1 | 16 {END + 1} | 16 {OUT} | 16 {-OUT} | 20", "-6 | -6 | -6 | -6 | 0 0 0 0 0 0")
        for time in (-OUT, -1, 0, 99, END + 1, OUT):
            self.refused(MIXED, f"16 {time}", -6)
        self.on(row_of(100), "16 99 | 16 100 | 20", "-6 | 0 0 0 | 0 100 0 0 0 0", row_of(100))
        self.on(row_of(100), f"16 {END + 1} | 16 {END}", "-6 | 0 0 0", row_of(END))
        self.on(row_of(END), f"16 {END - 1} | 16 {END} | 16 {END + 1}", "-6 | 0 0 0 | -6", row_of(END))

    def test_the_clock_may_leap_more_than_far(self):
        self.on(NO_FUTURE, f"16 {FAR + 8}", "0 0 0", [FAR + 8] + NO_FUTURE[1:])

    def test_no_turn(self):
        self.on(MIXED, "16 119", "0 0 0", [119] + MIXED[1:])
        self.on(MIXED, "16 100", "0 0 0", MIXED)
        self.on(NO_FUTURE, "16 1000", "0 0 0", [1000] + NO_FUTURE[1:])

    def test_one_turn_at_a_due_of_just_t(self):
        self.on(MIXED, "16 120", "0 1 4 12 10 11 13", AFTER_TURN)

    def test_several_turns(self):
        after = row_of(
            129,
            current=[(1, 9, 0), (10, 9, 0), (2, 5, 0), (3, 5, 1), (12, 5, 0), (11, 5, 0), (5, 5, 0), (4, 0, 0),
                     (13, -1, 0)],
            future=[(15, 9, 130), (14, 5, 130)],
            frozen=[(20, 5, 1, 20)],
            asleep=[(21, 5, 0)],
        )
        self.on(MIXED, "16 129", "0 2 5 12 10 11 13 5", after)
        self.on(MIXED, "16 121", "0 2 5 12 10 11 13 5", [121] + after[1:])

    def test_all_turns(self):
        for time in (130, 5000, END):
            self.on(MIXED, f"16 {time} | 15", "0 3 7 12 10 11 13 5 15 14 | -11", row_of(
                time,
                current=[(1, 9, 0), (10, 9, 0), (15, 9, 0), (2, 5, 0), (3, 5, 1), (12, 5, 0), (11, 5, 0), (5, 5, 0),
                         (14, 5, 0), (4, 0, 0), (13, -1, 0)],
                frozen=[(20, 5, 1, 20)],
                asleep=[(21, 5, 0)],
            ))

    def test_a_due_at_the_clock_comes_at_once(self):
        self.on(one_due(100, 100), "16 100", "0 1 1 1", one_current(100))

    def test_dues_above_the_end_stay(self):
        self.on(row_of(END - 2, future=[(1, 0, END), (2, 0, END + 1)]), f"16 {END}", "0 1 1 1",
                row_of(END, current=[(1, 0, 0)], future=[(2, 0, END + 1)]))
        self.on(one_due(END, END + 1), f"16 {END}", "0 0 0", one_due(END, END + 1))

    def test_what_is_left_is_reckoned_from_t(self):
        self.on(row_of(0, future=[(1, 0, 50), (2, 0, 60)]), "16 45 | 11 1 | 9 2 | 18 2",
                "0 0 0 | 0 5 | 0 | 0 2 0 1 15 0", row_of(45, current=[(1, 0, 0)], frozen=[(2, 0, 1, 15)]))

    def test_many_turns(self):
        future = [(number, 0, 3000 - number) for number in range(2000, 0, -1)]
        ids = " ".join([str(thing[0]) for thing in future])
        self.on(row_of(0, future=future), "16 5000", f"0 2000 2000 {ids}",
                row_of(5000, current=[(number, 0, 0) for number in range(2000, 0, -1)]))


class Slip(CallsCase):
    def test_every_due_is_later(self):
        self.on(MIXED, "17 7", "0", row_of(
            100,
            current=[(1, 9, 0), (2, 5, 0), (3, 5, 1), (4, 0, 0)],
            future=[(12, 5, 127), (10, 9, 127), (11, 5, 127), (13, -1, 127), (5, 5, 128), (15, 9, 137), (14, 5, 137)],
            frozen=[(20, 5, 1, 20)],
            asleep=[(21, 5, 0)],
        ))

    def test_nothing_waits(self):
        self.answered(f"17 -1 | 17 0 | 17 {FAR} | 17 {FAR + 1} | 20", "-6 | 0 | 0 | -6 | 0 0 0 0 0 0")
        self.on(NO_FUTURE, f"17 {FAR}", "0", NO_FUTURE)
        self.on(row_of(END), f"17 {FAR}", "0", row_of(END))

    def test_range(self):
        for wait in (-OUT, -1, FAR + 1, OUT):
            self.refused(MIXED, f"17 {wait}", -6)
            self.refused(row_of(100), f"17 {wait}", -6)
        self.on(MIXED, "17 0", "0", MIXED)
        self.on(one_due(100, 100), f"17 {FAR}", "0", one_due(100, 100 + FAR))

    def test_just_far_and_one_more(self):
        self.on(one_due(100, 130), f"17 {FAR - 30}", "0", one_due(100, 100 + FAR))
        self.refused(one_due(100, 130), f"17 {FAR - 29}", -12)
        self.on(one_due(100, 100 + FAR), "17 0", "0", one_due(100, 100 + FAR))
        self.refused(one_due(100, 100 + FAR), "17 1", -12)
        self.refused(one_due(100, 101), f"17 {FAR}", -12)

    def test_one_due_too_late_is_enough(self):
        row = row_of(100, future=[(3, 0, 100), (1, 0, 110), (2, 0, 130)])
        self.refused(row, f"17 {FAR - 29}", -12)
        self.on(row, f"17 {FAR - 30}", "0",
                row_of(100, future=[(3, 0, FAR + 70), (1, 0, FAR + 80), (2, 0, FAR + 100)]))

    def test_the_one_told_first(self):
        for wait in (-1, FAR + 1, OUT):
            self.refused(one_due(100, 100 + FAR), f"17 {wait}", -6)
        self.refused(one_due(100, 100), f"17 {FAR + 1}", -6)

    def test_past_the_end(self):
        self.on(one_due(END, END), f"17 {FAR}", "0", one_due(END, END + FAR))
        self.refused(one_due(END, END + 1), f"17 {FAR}", -12)
        self.on(one_due(END - 5, END), "17 1 | 15", "0 | -12", one_due(END - 5, END + 1))

    def test_rests_stay(self):
        row = row_of(100, frozen=[(1, 0, 1, FAR)])
        self.on(row, "17 1 | 17 9", "0 | 0", row)

    def test_what_waits_after_it(self):
        self.answered("1 4 1 0 2 0 | 2 1 30 | 17 5 | 2 2 35 | 21 | 19 1 | 11 1",
                      "0 | 0 | 0 | 0 | 0 35 2 | 0 2 1 2 | 0 35")


class Next(CallsCase):
    def test_nothing_waits(self):
        self.answered("21", "-11")
        self.answered("0 1 5 | 21", "0 | -11")
        self.refused(NO_FUTURE, "21", -11)

    def test_least_due_and_how_many(self):
        self.on(MIXED, "21", "0 120 4", MIXED)
        self.on(AFTER_TURN, "21", "0 121 1", AFTER_TURN)
        self.on(row_of(5, future=[(2, 0, 9), (1, 0, 9), (3, 7, 9)]), "21", "0 9 3",
                row_of(5, future=[(2, 0, 9), (1, 0, 9), (3, 7, 9)]))
        self.answered("0 1 5 | 2 1 0 | 21", "0 | 0 | 0 0 1")

    def test_equal_dues_elsewhere_do_not_count(self):
        row = row_of(0, future=[(1, 0, 10), (2, 0, 20), (3, 0, 20)], frozen=[(4, 0, 1, 10)])
        self.on(row, "21", "0 10 1", row)

    def test_above_the_end(self):
        self.on(one_due(END, END + FAR), "21", f"0 {END + FAR} 1", one_due(END, END + FAR))

    def test_after_each_call_of_the_clock(self):
        self.assertEqual(run(f"{load_of(MIXED)} | 15 | 21 | 16 125 | 21 | 17 3 | 21 | 15 | 21").split(" | ")[2::2],
                         ["0 121 1", "0 130 2", "0 133 2", "-11"])


class TheClockGoesOn(CallsCase):
    def test_turn_and_until_mixed_with_waits(self):
        calls = "1 6 1 5 2 5 3 5 | 2 1 10 | 2 2 20 | 15 | 2 1 10 | 2 3 10 | 9 2 | 16 18 | 10 2 | 21 | 15 | 16 28 | 20"
        self.answered(calls, "0 | 0 | 0 | 0 10 1 1 | 0 | 0 | 0 | 0 0 0 | 0 | 0 20 2 | 0 20 2 1 3 | 0 1 1 2"
                             " | 0 28 3 0 0 0")

    def test_equals_by_due_from_two_clocks(self):
        self.chain_after("1 6 1 0 2 0 3 0 | 2 1 30 | 2 2 31 | 16 10 | 2 3 20", FUTURE, [1, 3, 2])


if __name__ == "__main__":
    unittest.main()
