"""The calls 0 to 12 on states that load set up: a clock that is not 0, 1000 holds, 2000 things, dues past the end."""

import unittest

from tests.helper import END, FAR, OUT, CallsCase, joinall_of, load_of, row_of

# One thing on each chain: 1 current, 2 future, 3 frozen, 4 asleep.
FOUR = row_of(100, [(1, 5, 0)], [(2, 5, 130)], [(3, 5, 1, 40)], [(4, 5, 0)])


def current(clock, holds=0):
    return row_of(clock, current=[(1, 5, holds)])


def future(clock, due):
    return row_of(clock, future=[(1, 5, due)])


def frozen(clock, holds, rest):
    return row_of(clock, frozen=[(1, 5, holds, rest)])


def asleep(clock, holds=0):
    return row_of(clock, asleep=[(1, 5, holds)])


class NewCalendar(CallsCase):
    def test_nothing_is_known(self):
        self.answered("22 | 20", "0 5 0 0 0 0 0 | 0 0 0 0 0 0")


class Kept(CallsCase):
    """What is kept of each thing after calls on one of each chain."""

    def test_set_up_by_calls(self):
        self.state_after("16 100 | 1 8 1 5 2 5 3 5 4 5 | 2 2 30 | 2 3 40 | 9 3 | 5 4", FOUR)

    def test_due_and_rest_end_with_the_chain(self):
        self.on(FOUR, "11 2 | 11 3", "0 30 | 0 40",
                row_of(100, current=[(1, 5, 0), (2, 5, 0), (3, 5, 1)], asleep=[(4, 5, 0)]))
        self.on(FOUR, "5 2 | 5 3", "0 | 0", row_of(100, [(1, 5, 0)], asleep=[(2, 5, 0), (3, 5, 1), (4, 5, 0)]))
        self.on(FOUR, "5 2 | 6 2 | 18 2 | 5 3 | 6 3 | 18 3 | 18 4", "0 | 0 | 0 0 5 0 0 1 | 0 | 0 | 0 0 5 1 0 2"
                " | 0 3 5 0 0 0", row_of(100, current=[(1, 5, 0), (2, 5, 0), (3, 5, 1)], asleep=[(4, 5, 0)]))

    def test_rank_on_each_chain(self):
        self.on(FOUR, "8 1 -1000 | 8 2 1000 | 8 3 0 | 8 4 7", "0 | 0 | 0 | 0",
                row_of(100, [(1, -1000, 0)], [(2, 1000, 130)], [(3, 0, 1, 40)], [(4, 7, 0)]))

    def test_hold_and_free_on_each_chain(self):
        self.on(FOUR, "9 1 | 9 2 | 9 3 | 9 4", "0 | 0 | 0 | 0",
                row_of(100, [(1, 5, 1)], [], [(2, 5, 1, 30), (3, 5, 2, 40)], [(4, 5, 1)]))
        self.on(row_of(100, [(1, 5, 2)], [], [(2, 5, 2, 30), (3, 5, 1, 40)], [(4, 5, 2)]),
                "10 1 | 10 2 | 10 3 | 10 4", "0 | 0 | 0 | 0",
                row_of(100, [(1, 5, 1)], [(3, 5, 140)], [(2, 5, 1, 30)], [(4, 5, 1)]))

    def test_drop_from_each_chain(self):
        self.on(FOUR, "7 1 | 7 2 | 7 3 | 7 4 | 7 1", "0 | 0 | 0 | 0 | -5", row_of(100))
        self.on(FOUR, "7 3 | 0 3 8", "0 | 0", row_of(100, [(3, 8, 0), (1, 5, 0)], [(2, 5, 130)], [], [(4, 5, 0)]))

    def test_no_call_moves_the_clock(self):
        self.on(FOUR, "0 9 9 | 1 2 8 8 | 2 9 4 | 3 8 100 | 4 2 5 | 10 3 | 11 3 | 6 4 | 12 2 | 8 4 1 | 9 4 | 5 1 | 7 4"
                " | 20", "0 | 0 | 0 | 0 | 0 | 0 | 0 40 | 0 | 0 | 0 | 0 | 0 | 0 | 0 100 1 3 0 1",
                row_of(100, [(3, 5, 0)], [(8, 8, 100), (9, 9, 104), (2, 5, 105)], [], [(1, 5, 0)]))


class ClockThatIsNot0(CallsCase):
    def test_join(self):
        self.on(row_of(1000), "0 1 5 | 1 2 2 5", "0 | 0", row_of(1000, current=[(1, 5, 0), (2, 5, 0)]))

    def test_delay(self):
        self.on(current(1000), "2 1 30", "0", future(1000, 1030))
        self.on(asleep(1000), "2 1 0", "0", future(1000, 1000))
        self.on(current(1000), f"2 1 {FAR}", "0", future(1000, 1000 + FAR))
        self.on(current(1000, 2), "2 1 30", "0", frozen(1000, 2, 30))
        self.on(asleep(1000, 1000), f"2 1 {FAR}", "0", frozen(1000, 1000, FAR))
        for wait in (-OUT, -1, FAR + 1, OUT):
            self.refused(current(1000), f"2 1 {wait}", -6)

    def test_delay_may_pass_the_end(self):
        self.on(current(END), f"2 1 {FAR + 1} | 2 1 {FAR}", "-6 | 0", future(END, END + FAR))
        self.on(current(END - 1), "2 1 2", "0", future(END - 1, END + 1))
        self.on(current(END, 1), f"2 1 {FAR}", "0", frozen(END, 1, FAR))

    def test_at(self):
        self.on(current(1000), "3 1 999 | 3 1 0 | 3 1 1030", "-6 | -6 | 0", future(1000, 1030))
        self.on(asleep(1000), "3 1 1030 | 11 1", "0 | 0 30", current(1000))
        self.on(current(1000, 3), "3 1 1030", "0", frozen(1000, 3, 30))

    def test_at_the_clock_itself(self):
        self.on(current(1000), "3 1 1000", "0", future(1000, 1000))
        self.refused(current(1000), "3 1 999", -6)
        self.on(current(1000, 1), "3 1 1000", "0", frozen(1000, 1, 0))
        self.refused(current(1000, 1), "3 1 999", -6)

    def test_at_far_from_the_clock(self):
        self.on(current(1000), f"3 1 {1000 + FAR}", "0", future(1000, 1000 + FAR))
        self.refused(current(1000), f"3 1 {1001 + FAR}", -6)
        self.refused(current(1000), f"3 1 {OUT}", -6)
        self.refused(current(1000), f"3 1 {-OUT}", -6)
        self.on(asleep(1000, 1), f"3 1 {1000 + FAR}", "0", frozen(1000, 1, FAR))
        self.refused(asleep(1000, 1), f"3 1 {1001 + FAR}", -6)

    def test_at_the_end(self):
        for clock in (END - FAR, END - FAR + 1, END - 5, END):
            self.on(current(clock), f"3 1 {END}", "0", future(clock, END))
            self.refused(current(clock), f"3 1 {END + 1}", -6)
            self.refused(current(clock), f"3 1 {clock - 1}", -6)

    def test_at_the_end_from_too_far(self):
        self.refused(current(END - FAR - 1), f"3 1 {END}", -6)
        self.on(current(END - FAR - 1), f"3 1 {END - 1}", "0", future(END - FAR - 1, END - 1))

    def test_at_refusals_in_their_order(self):
        self.on(future(1000, 1030), f"3 2 999 | 3 1 999 | 3 1 {1001 + FAR} | 3 1 {END + 1} | 3 1 1000",
                "-5 | -6 | -6 | -6 | -7", future(1000, 1030))
        self.on(frozen(1000, 1, 30), "3 2 999 | 3 1 999 | 3 1 1000", "-5 | -6 | -7", frozen(1000, 1, 30))

    def test_retime(self):
        self.on(future(1000, 1030), "4 1 7", "0", future(1000, 1007))
        self.on(future(1000, 1030), "4 1 0", "0", future(1000, 1000))
        self.on(future(1000, 1030), f"4 1 {FAR}", "0", future(1000, 1000 + FAR))
        self.on(frozen(1000, 4, 30), "4 1 7", "0", frozen(1000, 4, 7))
        self.on(frozen(1000, 4, 30), f"4 1 {FAR}", "0", frozen(1000, 4, FAR))
        self.on(future(END, END + 9), f"4 1 {FAR} | 4 1 {FAR + 1}", "0 | -6", future(END, END + FAR))
        for row in (future(1000, 1030), frozen(1000, 4, 30)):
            self.refused(row, "4 1 -1", -6)
            self.refused(row, f"4 1 {FAR + 1}", -6)

    def test_hold_keeps_what_is_left(self):
        self.on(future(1010, 1030), "9 1", "0", frozen(1010, 1, 20))
        self.on(future(1010, 1010), "9 1", "0", frozen(1010, 1, 0))
        self.on(future(1010, 1010 + FAR), "9 1 | 9 1", "0 | 0", frozen(1010, 2, FAR))
        self.on(future(END, END + FAR), "9 1", "0", frozen(END, 1, FAR))
        self.on(future(END - 3, END + 5), "9 1", "0", frozen(END - 3, 1, 8))

    def test_free_waits_from_the_clock_on(self):
        self.on(frozen(5000, 1, 30), "10 1", "0", future(5000, 5030))
        self.on(frozen(5000, 1, 0), "10 1", "0", future(5000, 5000))
        self.on(frozen(5000, 2, 30), "10 1", "0", frozen(5000, 1, 30))
        self.on(frozen(END, 1, FAR), "10 1", "0", future(END, END + FAR))

    def test_a_frozen_thing_waits_while_the_clock_goes_on(self):
        self.on(future(1000, 1030), "16 1010 | 9 1 | 16 5000 | 10 1 | 18 1", "0 0 0 | 0 | 0 0 0 | 0 | 0 1 5 0 5020 0",
                future(5000, 5020))

    def test_fetch_tells_what_is_left(self):
        self.on(future(12, 30), "11 1", "0 18", current(12))
        self.on(frozen(12, 3, 30), "11 1", "0 30", current(12, 3))
        self.on(current(12, 3), "11 1", "0 0", current(12, 3))
        self.on(future(END, END + FAR), "11 1", f"0 {FAR}", current(END))
        self.on(future(END - 2, END + 1), "11 1", "0 3", current(END - 2))
        self.refused(asleep(12), "11 1", -7)

    def test_sleep_and_wake(self):
        self.on(future(12, 30), "5 1 | 6 1", "0 | 0", current(12))
        self.on(future(12, 30), "5 1", "0", asleep(12))
        self.on(frozen(12, 7, 30), "5 1", "0", asleep(12, 7))
        self.on(asleep(12, 7), "6 1", "0", current(12, 7))

    def test_ahead(self):
        self.on(row_of(9, future=[(1, 0, 9), (2, 0, 10), (3, 0, 10)]), "12 3", "0",
                row_of(9, future=[(1, 0, 9), (3, 0, 10), (2, 0, 10)]))
        self.on(row_of(END, future=[(1, 0, END + 5), (2, 0, END + 5)]), "12 2", "0",
                row_of(END, future=[(2, 0, END + 5), (1, 0, END + 5)]))


class Holds(CallsCase):
    def test_999_and_1000(self):
        self.on(current(7, 999), "9 1 | 9 1 | 9 1", "0 | -16 | -16", current(7, 1000))
        self.on(asleep(7, 999), "9 1 | 9 1", "0 | -16", asleep(7, 1000))
        self.on(frozen(7, 999, 30), "9 1 | 9 1", "0 | -16", frozen(7, 1000, 30))
        self.on(current(7, 1000), "9 1 | 10 1 | 9 1 | 9 1", "-16 | 0 | 0 | -16", current(7, 1000))

    def test_free_at_1000(self):
        self.on(frozen(7, 1000, 30), "10 1", "0", frozen(7, 999, 30))

    def test_free_at_0(self):
        self.refused(current(7), "10 1", -10)
        self.refused(future(7, 30), "10 1", -10)
        self.refused(asleep(7), "10 1", -10)
        self.on(current(7, 1), "10 1 | 10 1", "0 | -10", current(7))

    def test_full_holds_of_another_do_not_count(self):
        row = row_of(7, current=[(1, 5, 1000), (2, 5, 0)])
        self.on(row, "9 2 | 9 1 | 9 3", "0 | -16 | -5", row_of(7, current=[(1, 5, 1000), (2, 5, 1)]))

    def test_delay_keeps_1000(self):
        self.on(current(7, 1000), "2 1 30 | 9 1", "0 | -16", frozen(7, 1000, 30))


class TwoThousandThings(CallsCase):
    def full(self, count):
        """A state with so many things, on all chains, and no id below 5000."""
        ids = list(range(5000, 5000 + count))
        quarter = count // 4
        return row_of(
            50,
            [(number, 0, 0) for number in ids[:quarter]],
            [(number, 0, 60) for number in ids[quarter:2 * quarter]],
            [(number, 0, 1, 10) for number in ids[2 * quarter:3 * quarter]],
            [(number, 0, 0) for number in ids[3 * quarter:]],
        )

    def test_join_at_1999_and_2000(self):
        self.after(load_of(self.full(1999)) + " | 0 1 0", "0")
        self.after(load_of(self.full(1999)) + " | 0 1 0 | 0 2 0", "-4")
        self.refused(self.full(2000), "0 1 0", -4)
        self.refused(self.full(2000), "0 5000 0", -3)
        self.after(load_of(self.full(2000)) + " | 7 5700 | 0 1 0 | 20", "0 50 501 499 500 500")

    def test_joinall_at_1999_and_2000(self):
        self.after(load_of(self.full(1999)) + " | 1 2 1 0 | 20", "0 50 500 499 499 502")
        self.refused(self.full(1999), "1 4 1 0 2 0", -4)
        self.refused(self.full(1999), "1 4 1 0 2 1001", -2)
        self.refused(self.full(1999), "1 4 1 0 1 0", -3)
        self.refused(self.full(2000), "1 2 1 0", -4)
        self.refused(self.full(2000), "1 2 5000 0", -3)
        self.refused(self.full(2000), "1 1 1", -15)
        self.on(self.full(2000), "1 0", "0", self.full(2000))

    def test_joinall_fills_it(self):
        pairs = joinall_of([(number, 0) for number in range(1, 1001)])
        self.after(load_of(self.full(1000)) + " | " + pairs + " | 20", "0 50 1250 250 250 250")
        pairs = joinall_of([(number, 0) for number in range(1, 1000)] + [(2000, 0), (2001, 0)])
        self.refused(self.full(1000), pairs, -4)


class RefusedChangesNothing(CallsCase):
    REFUSED = {
        -1: ("0 0 5", "0 1000000001 5", f"0 {OUT} 5", f"0 {-OUT} 5", "1 4 9 5 0 5"),
        -2: ("0 9 1001", "0 9 -1001", "0 1 1001", "1 4 9 5 8 1001", "8 1 1001", "8 2 -1001", f"8 3 {OUT}", "8 4 1001"),
        -3: ("0 1 5", "0 2 7", "0 3 7", "0 4 7", "1 4 9 5 1 5", "1 6 9 5 8 5 9 5", "1 6 9 5 4 5 0 5"),
        -5: ("2 9 5", "2 9 -1", "3 9 105", "3 9 99", "4 9 5", "4 9 -1", "5 9", "6 9", "7 9", "7 0", f"7 {-OUT}",
             "8 9 5", "8 9 1001", "9 9", "10 9", "11 9", f"11 {OUT}", "12 9", "18 9"),
        -6: ("2 1 -1", f"2 1 {FAR + 1}", "2 2 -1", "2 4 -1", f"2 1 {OUT}", "3 1 99", f"3 1 {101 + FAR}", "3 2 99",
             f"3 1 {END + 1}", f"3 4 {-OUT}", "4 2 -1", f"4 3 {FAR + 1}", "4 1 -1", "16 99", f"16 {END + 1}", "17 -1",
             f"17 {FAR + 1}"),
        -7: ("2 2 5", "2 3 5", "3 2 105", "3 3 105", "4 1 5", "4 4 5", "5 4", "6 1", "6 2", "6 3", "11 4", "12 3",
             "12 4"),
        -10: ("10 1", "10 2", "10 4"),
        -12: (f"17 {FAR - 29}", f"17 {FAR}"),
        -13: ("19 -1", "19 4"),
        -14: ("23 0", "23 1 0", "23 5 -1 0 0 0 0", "23 6 0 0 0 0 0 0"),
        -15: ("1 1 9", "1 3 9 5 8", "1 3 0 5 8"),
    }

    def test_on_one_thing_of_each_chain(self):
        for refusal, calls in self.REFUSED.items():
            for call in calls:
                self.refused(FOUR, call, refusal)

    def test_one_behind_another(self):
        calls = [call for refusal in self.REFUSED for call in self.REFUSED[refusal]]
        expected = [str(refusal) for refusal in self.REFUSED for call in self.REFUSED[refusal]]
        self.on(FOUR, " | ".join(calls), " | ".join(expected), FOUR)


if __name__ == "__main__":
    unittest.main()
