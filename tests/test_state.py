"""What the calls 0 to 12 keep and change, through the program's own functions: the clock, 1000 holds, refusals."""

import unittest

from waitchains import limits
from waitchains.chains import Calendar
from tests.helper import ASLEEP, CURRENT, END, FAR, FROZEN, FUTURE, OUT
from tests.helper import CallsCase, calendar_at, run_on, state_of

# One thing on each chain: 1 current, 2 future, 3 frozen, 4 asleep.
FOUR = "1 8 1 5 2 5 3 5 4 5 | 2 2 30 | 2 3 40 | 9 3 | 5 4"


class NewCalendar(unittest.TestCase):
    def test_nothing_is_known(self):
        self.assertEqual(state_of(Calendar()), (0, [], [[], [], [], []]))

    def test_numbers(self):
        self.assertEqual((limits.FAR, limits.END), (FAR, END))

    def test_two_calendars_share_nothing(self):
        calendar_at(0, FOUR)
        self.assertEqual(state_of(Calendar()), (0, [], [[], [], [], []]))


class Kept(CallsCase):
    """What is kept of each thing after calls on one of each chain."""

    def kept(self, calendar, number):
        thing = calendar.things[number]
        return (thing.chain, thing.priority, thing.holds, thing.due, thing.rest)

    def test_each_chain(self):
        calendar = calendar_at(0, FOUR)
        self.assertEqual(self.kept(calendar, 1), (CURRENT, 5, 0, 0, 0))
        self.assertEqual(self.kept(calendar, 2), (FUTURE, 5, 0, 30, 0))
        self.assertEqual(self.kept(calendar, 3), (FROZEN, 5, 1, 0, 40))
        self.assertEqual(self.kept(calendar, 4), (ASLEEP, 5, 0, 0, 0))

    def test_due_and_rest_end_with_the_chain(self):
        calendar = calendar_at(0, FOUR + " | 11 2 | 11 3")
        self.assertEqual(self.kept(calendar, 2), (CURRENT, 5, 0, 0, 0))
        self.assertEqual(self.kept(calendar, 3), (CURRENT, 5, 1, 0, 0))
        calendar = calendar_at(0, FOUR + " | 5 2 | 5 3")
        self.assertEqual(self.kept(calendar, 2), (ASLEEP, 5, 0, 0, 0))
        self.assertEqual(self.kept(calendar, 3), (ASLEEP, 5, 1, 0, 0))

    def test_rank_on_each_chain(self):
        calendar = calendar_at(0, FOUR + " | 8 1 -1000 | 8 2 1000 | 8 3 0 | 8 4 7")
        self.assertEqual([calendar.things[number].priority for number in (1, 2, 3, 4)], [-1000, 1000, 0, 7])

    def test_no_call_moves_the_clock(self):
        calendar = calendar_at(77, FOUR + " | 10 3 | 11 3 | 6 4 | 3 4 77 | 4 4 5 | 12 4 | 8 4 1 | 7 4 | 0 9 9")
        self.assertEqual(calendar.clock, 77)


class ClockThatIsNot0(CallsCase):
    def test_delay(self):
        calendar = calendar_at(1000, "0 1 5 | 2 1 30")
        self.assertEqual(calendar.things[1].due, 1030)
        self.assertEqual(run_on(calendar, "11 1"), "0 30")

    def test_delay_may_pass_the_end(self):
        calendar = calendar_at(END, "0 1 5")
        self.assertEqual(run_on(calendar, f"2 1 {FAR + 1} | 2 1 {FAR}"), "-6 | 0")
        self.assertEqual(calendar.things[1].due, END + FAR)

    def test_at(self):
        calendar = calendar_at(1000, "0 1 5")
        self.assertEqual(run_on(calendar, "3 1 999 | 3 1 0 | 3 1 1030"), "-6 | -6 | 0")
        self.assertEqual(calendar.things[1].due, 1030)
        self.assertEqual(run_on(calendar, "11 1"), "0 30")

    def test_at_the_clock_itself(self):
        calendar = calendar_at(1000, "0 1 5")
        self.assertEqual(run_on(calendar, "3 1 999 | 3 1 1000"), "-6 | 0")
        self.assertEqual(calendar.things[1].due, 1000)

    def test_at_far_from_the_clock(self):
        calendar = calendar_at(1000, "0 1 5")
        self.assertEqual(run_on(calendar, f"3 1 {1001 + FAR} | 3 1 {1000 + FAR} | 11 1"), f"-6 | 0 | 0 {FAR}")

    def test_at_the_end(self):
        for clock in (END - FAR, END - 5, END):
            calendar = calendar_at(clock, "0 1 5")
            self.assertEqual(run_on(calendar, f"3 1 {END + 1} | 3 1 {clock - 1} | 3 1 {END}"), "-6 | -6 | 0")
            self.assertEqual(calendar.things[1].due, END)

    def test_at_the_end_from_too_far(self):
        calendar = calendar_at(END - FAR - 1, "0 1 5")
        self.assertEqual(run_on(calendar, f"3 1 {END} | 3 1 {END - 1}"), "-6 | 0")

    def test_at_of_a_held_thing(self):
        calendar = calendar_at(1000, "0 1 5 | 9 1 | 3 1 1030")
        self.assertEqual((calendar.things[1].chain, calendar.things[1].rest), (FROZEN, 30))

    def test_at_refusals_in_their_order(self):
        calendar = calendar_at(1000, "0 1 5 | 2 1 30")
        self.assertEqual(run_on(calendar, f"3 2 999 | 3 1 999 | 3 1 {1001 + FAR} | 3 1 1000"), "-5 | -6 | -6 | -7")

    def test_retime(self):
        calendar = calendar_at(1000, "0 1 5 | 2 1 30 | 4 1 7")
        self.assertEqual(calendar.things[1].due, 1007)
        calendar = calendar_at(1000, "0 1 5 | 2 1 30 | 9 1 | 4 1 7")
        self.assertEqual((calendar.things[1].due, calendar.things[1].rest), (0, 7))

    def test_hold_keeps_what_is_left(self):
        calendar = calendar_at(1000, "0 1 5 | 2 1 30")
        calendar.clock = 1010
        self.assertEqual(run_on(calendar, "9 1"), "0")
        self.assertEqual((calendar.things[1].chain, calendar.things[1].rest), (FROZEN, 20))

    def test_free_waits_from_the_clock_on(self):
        calendar = calendar_at(1000, "0 1 5 | 2 1 30 | 9 1")
        calendar.clock = 5000
        self.assertEqual(run_on(calendar, "10 1"), "0")
        self.assertEqual((calendar.things[1].chain, calendar.things[1].due), (FUTURE, 5030))

    def test_free_behind_its_equals_and_by_its_new_due(self):
        calendar = calendar_at(0, "1 6 1 0 2 0 3 0 | 2 1 10 | 9 1 | 2 2 30 | 2 3 40")
        calendar.clock = 20
        self.assertEqual(run_on(calendar, "10 1"), "0")
        self.chain(calendar, FUTURE, [2, 1, 3])

    def test_fetch_tells_what_is_left(self):
        calendar = calendar_at(0, "1 4 1 5 2 5 | 2 1 30 | 2 2 30 | 9 2")
        calendar.clock = 12
        self.assertEqual(run_on(calendar, "11 1 | 11 2"), "0 18 | 0 30")

    def test_equals_are_equal_by_due_and_not_by_wait(self):
        calendar = calendar_at(0, "1 6 1 0 2 0 3 0 | 2 1 30 | 2 2 31")
        calendar.clock = 10
        self.assertEqual(run_on(calendar, "2 3 20"), "0")
        self.chain(calendar, FUTURE, [1, 3, 2])


class Holds(CallsCase):
    def test_1000_and_one_more(self):
        for start in ("0 1 5", "0 1 5 | 5 1", "0 1 5 | 2 1 30"):
            calendar = calendar_at(0, start + " | 9 1" * 999)
            self.assertEqual(run_on(calendar, "9 1 | 9 1 | 9 1"), "0 | -16 | -16")
            self.assertEqual(calendar.things[1].holds, 1000)
            self.assertEqual(run_on(calendar, "10 1 | 9 1 | 9 1"), "0 | 0 | -16")

    def test_1000_frees(self):
        calendar = calendar_at(0, "0 1 5 | 2 1 30" + " | 9 1" * 1000)
        self.assertEqual(run_on(calendar, " | 10 1" * 999 + " | 12 1"), "0 | " * 999 + "-7")
        self.assertEqual(run_on(calendar, "10 1 | 12 1 | 10 1 | 11 1"), "0 | 0 | -10 | 0 30")

    def test_full_holds_of_another_do_not_count(self):
        calendar = calendar_at(0, "1 4 1 5 2 5" + " | 9 1" * 1000)
        self.assertEqual(run_on(calendar, "9 2 | 9 1 | 9 3"), "0 | -16 | -5")


class RefusedChangesNothing(CallsCase):
    REFUSED = [
        "0 0 5", "0 1000000001 5", f"0 {OUT} 5", "0 9 1001", "0 9 -1001", "0 1 5", "0 2 7", "0 3 7", "0 4 7",
        "1 1 9", "1 3 9 5 8", "1 4 9 5 1 5", "1 6 9 5 8 5 9 5", "1 4 9 5 8 1001", "1 4 9 5 0 5",
        "2 9 5", "2 1 -1", f"2 1 {FAR + 1}", "2 2 5", "2 3 5", "2 4 -1", f"2 1 {OUT}",
        "3 9 105", "3 1 99", f"3 1 {101 + FAR}", f"3 1 {END + 1}", "3 2 105", "3 3 105", f"3 4 {-OUT}",
        "4 9 5", "4 2 -1", f"4 3 {FAR + 1}", "4 1 5", "4 4 5",
        "5 9", "5 4", "6 9", "6 1", "6 2", "6 3", "7 9", "7 0", f"7 {-OUT}",
        "8 9 5", "8 1 1001", "8 2 -1001", f"8 3 {OUT}", "8 4 1001",
        "9 9", "10 9", "10 1", "10 2", "10 4", "11 9", "11 4", "12 9", "12 3", "12 4",
    ]

    def test_on_one_thing_of_each_chain(self):
        for call in self.REFUSED:
            calendar = calendar_at(100, FOUR)
            before = state_of(calendar)
            self.assertLess(int(run_on(calendar, call)), 0, call)
            self.assertEqual(state_of(calendar), before, call)

    def test_full(self):
        pairs = [(number, number % 3) for number in range(1, 2001)]
        row = " ".join([f"{number} {priority}" for number, priority in pairs])
        calendar = calendar_at(0, f"1 4000 {row} | 2 5 9 | 5 6")
        before = state_of(calendar)
        self.assertEqual(run_on(calendar, "0 2001 0 | 1 2 2001 0 | 1 4 2001 0 2002 0"), "-4 | -4 | -4")
        self.assertEqual(state_of(calendar), before)

    def test_all_holds(self):
        calendar = calendar_at(0, FOUR + " | 9 1" * 1000 + " | 9 3" * 999)
        before = state_of(calendar)
        self.assertEqual(run_on(calendar, "9 1 | 9 3"), "-16 | -16")
        self.assertEqual(state_of(calendar), before)


if __name__ == "__main__":
    unittest.main()
