"""The orders on the four chains, after each call that puts a thing on one: told by chain, told and where."""

import unittest

from tests.helper import ASLEEP, CURRENT, FAR, FROZEN, FUTURE, CallsCase, counted, joinall_of, load_of, row_of

# Three priorities, two equals each, the greatest first: 1 2 (9), 3 4 (5), 5 6 (-3).
SIX = joinall_of([(3, 5), (1, 9), (5, -3), (4, 5), (2, 9), (6, -3)])
# Three dues, two equals each, the least first: 1 2 (10), 3 4 (20), 5 6 (30).
SIX_DUES = joinall_of([(number, 0) for number in range(1, 7)])
SIX_DUES += " | 2 3 20 | 2 1 10 | 2 5 30 | 2 4 20 | 2 2 10 | 2 6 30"


class Current(CallsCase):
    def current_after(self, calls, expected):
        self.chain_after(calls, CURRENT, expected)

    def test_join_greater_first_and_behind_equals(self):
        self.current_after(SIX, [1, 2, 3, 4, 5, 6])
        self.current_after(SIX + " | 0 7 9 | 0 8 5 | 0 9 -3", [1, 2, 7, 3, 4, 8, 5, 6, 9])
        self.current_after(SIX + " | 0 7 1000 | 0 8 -1000 | 0 9 0", [7, 1, 2, 3, 4, 9, 5, 6, 8])

    def test_joinall_is_as_join_for_each_pair(self):
        singles = "0 3 5 | 0 1 9 | 0 5 -3 | 0 4 5 | 0 2 9 | 0 6 -3"
        self.current_after(singles, [1, 2, 3, 4, 5, 6])
        self.current_after("0 9 5 | " + SIX, [1, 2, 9, 3, 4, 5, 6])

    def test_the_id_does_not_order_equals(self):
        self.current_after("0 9 0 | 0 2 0 | 0 7 0 | 0 1 0", [9, 2, 7, 1])

    def test_wake(self):
        self.current_after(SIX + " | 5 3 | 6 3", [1, 2, 4, 3, 5, 6])
        self.current_after(SIX + " | 5 1 | 5 2 | 6 2 | 6 1", [2, 1, 3, 4, 5, 6])

    def test_fetch_behind_equals(self):
        self.current_after(SIX + " | 2 3 10 | 11 3", [1, 2, 4, 3, 5, 6])
        self.current_after(SIX + " | 2 3 10 | 9 3 | 11 3", [1, 2, 4, 3, 5, 6])

    def test_fetch_on_current_stays(self):
        self.current_after(SIX + " | 11 3 | 11 1 | 11 5", [1, 2, 3, 4, 5, 6])

    def test_rank(self):
        self.current_after(SIX + " | 8 3 9", [1, 2, 3, 4, 5, 6])
        self.current_after(SIX + " | 8 6 9", [1, 2, 6, 3, 4, 5])
        self.current_after(SIX + " | 8 1 -3", [2, 3, 4, 5, 6, 1])
        self.current_after(SIX + " | 8 1 7", [2, 1, 3, 4, 5, 6])
        self.current_after(SIX + " | 8 5 1000 | 8 2 -1000", [5, 1, 3, 4, 6, 2])

    def test_rank_to_the_priority_that_it_had(self):
        self.current_after(SIX + " | 8 3 5", [1, 2, 4, 3, 5, 6])
        self.current_after(SIX + " | 8 4 5", [1, 2, 3, 4, 5, 6])

    def test_rank_elsewhere_counts_when_it_comes(self):
        self.current_after(SIX + " | 5 3 | 8 3 9 | 6 3", [1, 2, 3, 4, 5, 6])
        self.current_after(SIX + " | 2 6 10 | 8 6 5 | 11 6", [1, 2, 3, 4, 6, 5])
        self.current_after(SIX + " | 2 6 10 | 9 6 | 8 6 5 | 11 6", [1, 2, 3, 4, 6, 5])

    def test_ahead(self):
        self.current_after(SIX + " | 12 4", [1, 2, 4, 3, 5, 6])
        self.current_after(SIX + " | 12 3", [1, 2, 3, 4, 5, 6])
        self.current_after(SIX + " | 0 7 5 | 12 7", [1, 2, 7, 3, 4, 5, 6])
        self.current_after(SIX + " | 12 2 | 12 6", [2, 1, 3, 4, 6, 5])

    def test_behind_equals_once_one_went_ahead(self):
        self.current_after(SIX + " | 12 4 | 0 7 5", [1, 2, 4, 3, 7, 5, 6])

    def test_hold_and_free_leave_the_order(self):
        self.current_after(SIX + " | 9 3 | 9 1 | 10 3", [1, 2, 3, 4, 5, 6])

    def test_what_leaves_is_off_the_chain(self):
        self.current_after(SIX + " | 5 1 | 2 4 10 | 7 6", [2, 3, 5])

    def test_a_held_thing_keeps_its_place(self):
        self.current_after(SIX + " | 9 4 | 12 4 | 8 3 5 | 8 4 5", [1, 2, 3, 4, 5, 6])


class Future(CallsCase):
    def future_after(self, calls, expected):
        self.chain_after(calls, FUTURE, expected)

    def test_delay_lesser_first_and_behind_equals(self):
        self.future_after(SIX_DUES, [1, 2, 3, 4, 5, 6])
        self.future_after(SIX_DUES + " | 0 7 0 | 2 7 20", [1, 2, 3, 4, 7, 5, 6])
        self.future_after(SIX_DUES + f" | 0 7 0 | 2 7 0 | 0 8 0 | 2 8 {FAR}", [7, 1, 2, 3, 4, 5, 6, 8])
        self.future_after(SIX_DUES + " | 0 7 0 | 2 7 19", [1, 2, 7, 3, 4, 5, 6])

    def test_the_priority_does_not_order_it(self):
        self.future_after("0 1 -9 | 0 2 9 | 0 3 0 | 2 1 10 | 2 2 10 | 2 3 10", [1, 2, 3])
        self.future_after(SIX_DUES + " | 8 3 1000 | 8 2 -1000 | 8 6 1000", [1, 2, 3, 4, 5, 6])

    def test_the_id_does_not_order_equals(self):
        self.future_after("1 6 9 0 2 0 7 0 | 2 9 5 | 2 2 5 | 2 7 5", [9, 2, 7])

    def test_at(self):
        self.future_after(SIX_DUES + " | 0 7 0 | 3 7 20", [1, 2, 3, 4, 7, 5, 6])

    def test_retime(self):
        self.future_after(SIX_DUES + " | 4 1 20", [2, 3, 4, 1, 5, 6])
        self.future_after(SIX_DUES + " | 4 6 10", [1, 2, 6, 3, 4, 5])
        self.future_after(SIX_DUES + " | 4 3 30", [1, 2, 4, 5, 6, 3])

    def test_retime_to_the_due_that_it_had(self):
        self.future_after(SIX_DUES + " | 4 3 20", [1, 2, 4, 3, 5, 6])
        self.future_after(SIX_DUES + " | 4 4 20", [1, 2, 3, 4, 5, 6])

    def test_free(self):
        self.future_after(SIX_DUES + " | 9 3", [1, 2, 4, 5, 6])
        self.future_after(SIX_DUES + " | 9 3 | 10 3", [1, 2, 4, 3, 5, 6])
        self.future_after(SIX_DUES + " | 9 1 | 4 1 30 | 10 1", [2, 3, 4, 5, 6, 1])

    def test_ahead(self):
        self.future_after(SIX_DUES + " | 12 4", [1, 2, 4, 3, 5, 6])
        self.future_after(SIX_DUES + " | 12 3", [1, 2, 3, 4, 5, 6])
        self.future_after(SIX_DUES + " | 12 2 | 12 6", [2, 1, 3, 4, 6, 5])
        self.future_after(SIX_DUES + " | 0 7 0 | 2 7 20 | 12 7", [1, 2, 7, 3, 4, 5, 6])

    def test_ahead_goes_by_the_due_and_not_the_priority(self):
        self.future_after(SIX_DUES + " | 8 4 -1000 | 12 4 | 8 6 1000 | 12 6", [1, 2, 4, 3, 6, 5])

    def test_what_leaves_is_off_the_chain(self):
        self.future_after(SIX_DUES + " | 5 1 | 11 3 | 9 6 | 7 4", [2, 5])


class ById(CallsCase):
    def test_frozen(self):
        calls = SIX_DUES + " | 9 5 | 9 1 | 9 6 | 9 3"
        self.chain_after(calls, FROZEN, [1, 3, 5, 6])
        self.chain_after(calls, FUTURE, [2, 4])
        calls += " | 4 1 99 | 8 6 1000 | 9 2 | 10 3"
        self.chain_after(calls, FROZEN, [1, 2, 5, 6])
        self.chain_after(calls, FUTURE, [4, 3])

    def test_asleep(self):
        calls = SIX + " | 5 4 | 5 1 | 5 6 | 5 2"
        self.chain_after(calls, ASLEEP, [1, 2, 4, 6])
        self.chain_after(calls + " | 8 6 1000 | 5 3 | 6 1", ASLEEP, [2, 3, 4, 6])

    def test_sleep_from_every_chain(self):
        calls = SIX + " | 2 5 10 | 2 2 20 | 9 2 | 5 6 | 5 2 | 5 5 | 5 1"
        self.chain_after(calls, ASLEEP, [1, 2, 5, 6])

    def test_delay_and_at_of_a_held_thing(self):
        calls = SIX + " | 9 4 | 9 1 | 9 3 | 2 4 1 | 3 1 9 | 2 3 5"
        self.chain_after(calls, FROZEN, [1, 3, 4])
        self.chain_after(calls, CURRENT, [2, 5, 6])
        self.chain_after(calls, FUTURE, [])

    def test_rests_and_holds_do_not_order_the_frozen(self):
        frozen = [(2, 9, 1, 50), (3, -9, 9, 0), (5, 1000, 3, 70)]
        calls = load_of(row_of(100, current=[(4, 0, 2), (1, 0, 1)], frozen=frozen))
        calls += " | 2 4 60 | 2 1 99 | 9 2 | 4 3 80"
        self.chain_after(calls, FROZEN, [1, 2, 3, 4, 5])


class ByTheClock(CallsCase):
    """Things that turn and until bring, and the order that slip and the clock leave alone."""

    def test_turn_brings_each_behind_its_equals(self):
        calls = SIX + " | 2 4 10 | 2 1 10 | 2 3 10 | 2 6 20 | 15"
        self.chain_after(calls, CURRENT, [2, 1, 4, 3, 5])
        self.chain_after(calls, FUTURE, [6])

    def test_until_brings_due_by_due(self):
        calls = SIX + " | 2 3 20 | 2 4 10 | 2 2 20 | 2 1 10 | 2 6 30 | 16 25"
        self.chain_after(calls, CURRENT, [1, 2, 4, 3, 5])
        self.chain_after(calls, FUTURE, [6])

    def test_ahead_of_the_future_chain_counts_when_they_come(self):
        self.chain_after(SIX_DUES + " | 12 2 | 15", CURRENT, [2, 1])
        self.chain_after(SIX_DUES + " | 12 2 | 12 4 | 16 20", CURRENT, [2, 1, 4, 3])

    def test_slip_leaves_the_order(self):
        self.chain_after(SIX_DUES + " | 12 4 | 17 5", FUTURE, [1, 2, 4, 3, 5, 6])
        self.chain_after(SIX_DUES + " | 17 10 | 0 7 0 | 2 7 20", FUTURE, [1, 2, 7, 3, 4, 5, 6])

    def test_until_leaves_the_order_of_those_that_wait(self):
        self.chain_after(SIX_DUES + " | 12 4 | 12 6 | 16 15", FUTURE, [4, 3, 6, 5])

    def test_what_came_is_an_equal_as_any(self):
        calls = SIX_DUES + " | 16 30"
        self.chain_after(calls, CURRENT, [1, 2, 3, 4, 5, 6])
        self.chain_after(calls + " | 0 7 0 | 12 4 | 8 1 0", CURRENT, [4, 2, 3, 5, 6, 7, 1])


class AsLoaded(CallsCase):
    """Equals that load put in an order of its own keep it, and calls put things behind or in front of all of them."""

    ROW = load_of(row_of(
        50,
        current=[(9, 7, 0), (2, 7, 1), (5, 7, 0), (8, 3, 0), (1, 3, 0)],
        future=[(16, 0, 60), (11, 9, 60), (14, 0, 60), (19, 0, 70), (12, 0, 70)],
        frozen=[(21, 0, 1, 10), (22, 7, 1, 20)],
        asleep=[(31, 7, 0), (32, 3, 0)],
    ))

    def test_as_they_were_told(self):
        self.chain_after(self.ROW, CURRENT, [9, 2, 5, 8, 1])
        self.chain_after(self.ROW, FUTURE, [16, 11, 14, 19, 12])
        self.chain_after(self.ROW, FROZEN, [21, 22])
        self.chain_after(self.ROW, ASLEEP, [31, 32])

    def test_onto_the_current_chain(self):
        for calls, expected in (
            ("0 40 7", [9, 2, 5, 40, 8, 1]),
            ("1 4 40 3 41 7", [9, 2, 5, 41, 8, 1, 40]),
            ("6 31", [9, 2, 5, 31, 8, 1]),
            ("6 32", [9, 2, 5, 8, 1, 32]),
            ("8 9 7", [2, 5, 9, 8, 1]),
            ("8 9 3", [2, 5, 8, 1, 9]),
            ("8 1 7", [9, 2, 5, 1, 8]),
            ("11 22", [9, 2, 5, 22, 8, 1]),
            ("11 11", [11, 9, 2, 5, 8, 1]),
            ("12 5", [5, 9, 2, 8, 1]),
            ("12 1", [9, 2, 5, 1, 8]),
            ("15", [11, 9, 2, 5, 8, 1, 16, 14]),
            ("16 70", [11, 9, 2, 5, 8, 1, 16, 14, 19, 12]),
        ):
            self.chain_after(self.ROW + " | " + calls, CURRENT, expected)

    def test_onto_the_future_chain(self):
        for calls, expected in (
            ("2 9 10", [16, 11, 14, 9, 19, 12]),
            ("3 9 70", [16, 11, 14, 19, 12, 9]),
            ("2 31 9", [31, 16, 11, 14, 19, 12]),
            ("3 32 60", [16, 11, 14, 32, 19, 12]),
            ("4 16 10", [11, 14, 16, 19, 12]),
            ("4 16 20", [11, 14, 19, 12, 16]),
            ("4 12 10", [16, 11, 14, 12, 19]),
            ("10 21", [16, 11, 14, 21, 19, 12]),
            ("10 22", [16, 11, 14, 19, 12, 22]),
            ("12 14", [14, 16, 11, 19, 12]),
            ("12 12", [16, 11, 14, 12, 19]),
            ("17 10 | 2 9 20", [16, 11, 14, 9, 19, 12]),
            ("16 55 | 2 9 5", [16, 11, 14, 9, 19, 12]),
        ):
            self.chain_after(self.ROW + " | " + calls, FUTURE, expected)

    def test_onto_the_chains_by_id(self):
        self.chain_after(self.ROW + " | 9 14 | 9 11 | 2 2 5", FROZEN, [2, 11, 14, 21, 22])
        self.chain_after(self.ROW + " | 5 22 | 5 8 | 5 19 | 5 2", ASLEEP, [2, 8, 19, 22, 31, 32])


class Many(CallsCase):
    def test_2000_equals_and_unequals(self):
        pairs = [(number, number * 37 % 11) for number in range(2000, 0, -1)]
        expected = [number for number, priority in sorted(pairs, key=lambda pair: -pair[1])]
        self.after(joinall_of(pairs) + " | 19 0", "0 " + counted(expected))


if __name__ == "__main__":
    unittest.main()
