"""The orders on the four chains, through the program's own functions: no call from 0 to 12 tells them."""

import unittest

from tests.helper import ASLEEP, CURRENT, FAR, FROZEN, FUTURE, CallsCase, calendar_at, joinall_of, run_on

# Three priorities, two equals each, the greatest first: 1 2 (9), 3 4 (5), 5 6 (-3).
SIX = joinall_of([(3, 5), (1, 9), (5, -3), (4, 5), (2, 9), (6, -3)])
# Three dues, two equals each, the least first: 1 2 (10), 3 4 (20), 5 6 (30).
SIX_DUES = joinall_of([(number, 0) for number in range(1, 7)])
SIX_DUES += " | 2 3 20 | 2 1 10 | 2 5 30 | 2 4 20 | 2 2 10 | 2 6 30"


class Current(CallsCase):
    def current_after(self, calls, expected):
        self.chain(calendar_at(0, calls), CURRENT, expected)

    def test_join_greater_first_and_behind_equals(self):
        self.current_after(SIX, [1, 2, 3, 4, 5, 6])
        self.current_after(SIX + " | 0 7 9 | 0 8 5 | 0 9 -3", [1, 2, 7, 3, 4, 8, 5, 6, 9])
        self.current_after(SIX + " | 0 7 1000 | 0 8 -1000 | 0 9 0", [7, 1, 2, 3, 4, 9, 5, 6, 8])

    def test_joinall_is_as_join_for_each_pair(self):
        singles = "0 3 5 | 0 1 9 | 0 5 -3 | 0 4 5 | 0 2 9 | 0 6 -3"
        self.current_after(singles, [1, 2, 3, 4, 5, 6])
        self.current_after("0 9 5 | " + SIX, [1, 2, 9, 3, 4, 5, 6])

    def test_the_id_does_not_order_equals(self):
        self.current_after("0 9 0 | 0 2 0 | 0 7 0 | 0 1 0", [9, 2, 7, 1])

    def test_wake(self):
        self.current_after(SIX + " | 5 3 | 6 3", [1, 2, 4, 3, 5, 6])
        self.current_after(SIX + " | 5 1 | 5 2 | 6 2 | 6 1", [2, 1, 3, 4, 5, 6])

    def test_fetch_behind_equals(self):
        self.current_after(SIX + " | 2 3 10 | 11 3", [1, 2, 4, 3, 5, 6])
        self.current_after(SIX + " | 2 3 10 | 9 3 | 11 3", [1, 2, 4, 3, 5, 6])

    def test_fetch_on_current_stays(self):
        self.current_after(SIX + " | 11 3 | 11 1 | 11 5", [1, 2, 3, 4, 5, 6])

    def test_rank(self):
        self.current_after(SIX + " | 8 3 9", [1, 2, 3, 4, 5, 6])
        self.current_after(SIX + " | 8 6 9", [1, 2, 6, 3, 4, 5])
        self.current_after(SIX + " | 8 1 -3", [2, 3, 4, 5, 6, 1])
        self.current_after(SIX + " | 8 1 7", [2, 1, 3, 4, 5, 6])
        self.current_after(SIX + " | 8 5 1000 | 8 2 -1000", [5, 1, 3, 4, 6, 2])

    def test_rank_to_the_priority_that_it_had(self):
        self.current_after(SIX + " | 8 3 5", [1, 2, 4, 3, 5, 6])
        self.current_after(SIX + " | 8 4 5", [1, 2, 3, 4, 5, 6])

    def test_rank_elsewhere_counts_when_it_comes(self):
        self.current_after(SIX + " | 5 3 | 8 3 9 | 6 3", [1, 2, 3, 4, 5, 6])
        self.current_after(SIX + " | 2 6 10 | 8 6 5 | 11 6", [1, 2, 3, 4, 6, 5])
        self.current_after(SIX + " | 2 6 10 | 9 6 | 8 6 5 | 11 6", [1, 2, 3, 4, 6, 5])

    def test_ahead(self):
        self.current_after(SIX + " | 12 4", [1, 2, 4, 3, 5, 6])
        self.current_after(SIX + " | 12 3", [1, 2, 3, 4, 5, 6])
        self.current_after(SIX + " | 0 7 5 | 12 7", [1, 2, 7, 3, 4, 5, 6])
        self.current_after(SIX + " | 12 2 | 12 6", [2, 1, 3, 4, 6, 5])

    def test_behind_equals_once_one_went_ahead(self):
        self.current_after(SIX + " | 12 4 | 0 7 5", [1, 2, 4, 3, 7, 5, 6])

    def test_hold_and_free_leave_the_order(self):
        self.current_after(SIX + " | 9 3 | 9 1 | 10 3", [1, 2, 3, 4, 5, 6])

    def test_what_leaves_is_off_the_chain(self):
        self.current_after(SIX + " | 5 1 | 2 4 10 | 7 6", [2, 3, 5])

    def test_a_held_thing_keeps_its_place(self):
        self.current_after(SIX + " | 9 4 | 12 4 | 8 3 5 | 8 4 5", [1, 2, 3, 4, 5, 6])


class Future(CallsCase):
    def future_after(self, calls, expected):
        self.chain(calendar_at(0, calls), FUTURE, expected)

    def test_delay_lesser_first_and_behind_equals(self):
        self.future_after(SIX_DUES, [1, 2, 3, 4, 5, 6])
        self.future_after(SIX_DUES + " | 0 7 0 | 2 7 20", [1, 2, 3, 4, 7, 5, 6])
        self.future_after(SIX_DUES + f" | 0 7 0 | 2 7 0 | 0 8 0 | 2 8 {FAR}", [7, 1, 2, 3, 4, 5, 6, 8])
        self.future_after(SIX_DUES + " | 0 7 0 | 2 7 19", [1, 2, 7, 3, 4, 5, 6])

    def test_the_priority_does_not_order_it(self):
        self.future_after("0 1 -9 | 0 2 9 | 0 3 0 | 2 1 10 | 2 2 10 | 2 3 10", [1, 2, 3])
        self.future_after(SIX_DUES + " | 8 3 1000 | 8 2 -1000 | 8 6 1000", [1, 2, 3, 4, 5, 6])

    def test_the_id_does_not_order_equals(self):
        self.future_after("1 6 9 0 2 0 7 0 | 2 9 5 | 2 2 5 | 2 7 5", [9, 2, 7])

    def test_at(self):
        self.future_after(SIX_DUES + " | 0 7 0 | 3 7 20", [1, 2, 3, 4, 7, 5, 6])

    def test_retime(self):
        self.future_after(SIX_DUES + " | 4 1 20", [2, 3, 4, 1, 5, 6])
        self.future_after(SIX_DUES + " | 4 6 10", [1, 2, 6, 3, 4, 5])
        self.future_after(SIX_DUES + " | 4 3 30", [1, 2, 4, 5, 6, 3])

    def test_retime_to_the_due_that_it_had(self):
        self.future_after(SIX_DUES + " | 4 3 20", [1, 2, 4, 3, 5, 6])
        self.future_after(SIX_DUES + " | 4 4 20", [1, 2, 3, 4, 5, 6])

    def test_free(self):
        self.future_after(SIX_DUES + " | 9 3", [1, 2, 4, 5, 6])
        self.future_after(SIX_DUES + " | 9 3 | 10 3", [1, 2, 4, 3, 5, 6])
        self.future_after(SIX_DUES + " | 9 1 | 4 1 30 | 10 1", [2, 3, 4, 5, 6, 1])

    def test_ahead(self):
        self.future_after(SIX_DUES + " | 12 4", [1, 2, 4, 3, 5, 6])
        self.future_after(SIX_DUES + " | 12 3", [1, 2, 3, 4, 5, 6])
        self.future_after(SIX_DUES + " | 12 2 | 12 6", [2, 1, 3, 4, 6, 5])
        self.future_after(SIX_DUES + " | 0 7 0 | 2 7 20 | 12 7", [1, 2, 7, 3, 4, 5, 6])

    def test_ahead_goes_by_the_due_and_not_the_priority(self):
        self.future_after(SIX_DUES + " | 8 4 -1000 | 12 4 | 8 6 1000 | 12 6", [1, 2, 4, 3, 6, 5])

    def test_what_leaves_is_off_the_chain(self):
        self.future_after(SIX_DUES + " | 5 1 | 11 3 | 9 6 | 7 4", [2, 5])


class ById(CallsCase):
    def test_frozen(self):
        calendar = calendar_at(0, SIX_DUES + " | 9 5 | 9 1 | 9 6 | 9 3")
        self.chain(calendar, FROZEN, [1, 3, 5, 6])
        self.chain(calendar, FUTURE, [2, 4])
        run_on(calendar, "4 1 99 | 8 6 1000 | 9 2 | 10 3")
        self.chain(calendar, FROZEN, [1, 2, 5, 6])
        self.chain(calendar, FUTURE, [4, 3])

    def test_asleep(self):
        calendar = calendar_at(0, SIX + " | 5 4 | 5 1 | 5 6 | 5 2")
        self.chain(calendar, ASLEEP, [1, 2, 4, 6])
        run_on(calendar, "8 6 1000 | 5 3 | 6 1")
        self.chain(calendar, ASLEEP, [2, 3, 4, 6])

    def test_delay_of_a_held_thing(self):
        calendar = calendar_at(0, SIX + " | 9 4 | 9 1 | 9 3 | 2 4 1 | 2 1 9 | 2 3 5")
        self.chain(calendar, FROZEN, [1, 3, 4])
        self.chain(calendar, CURRENT, [2, 5, 6])
        self.chain(calendar, FUTURE, [])


class Many(CallsCase):
    def test_2000_equals_and_unequals(self):
        pairs = [(number, number * 37 % 11) for number in range(2000, 0, -1)]
        calendar = calendar_at(0, joinall_of(pairs))
        expected = [number for number, priority in sorted(pairs, key=lambda pair: -pair[1])]
        self.chain(calendar, CURRENT, expected)


if __name__ == "__main__":
    unittest.main()
