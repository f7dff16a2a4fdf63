"""The calls 0 to 12 through the desk: what each answers, refuses and changes, as far as their answers show it."""

import unittest

from tests.helper import CallsCase, FAR, END, OUT, joinall_of, run

# Id 1 is brought to each chain, and each chain is told apart by what it refuses.
ON_CURRENT = "0 1 5"
ON_FUTURE = "0 1 5 | 2 1 30"
ON_FROZEN = "0 1 5 | 2 1 30 | 9 1"
ON_ASLEEP = "0 1 5 | 5 1"

# Numbers that are no known id, whatever they are.
UNKNOWN = (-OUT, -1, 0, 2, 10 ** 9, 10 ** 9 + 1, OUT)


class Probes(CallsCase):
    """Where a thing is, by calls of its own."""

    def is_on_current(self, calls):
        self.after(calls + " | 6 1", "-7")
        self.after(calls + " | 4 1 0", "-7")
        self.after(calls + " | 12 1", "0")
        self.after(calls + " | 11 1", "0 0")
        self.after(calls + " | 5 1", "0")

    def is_on_future(self, calls, rest):
        self.after(calls + " | 2 1 0", "-7")
        self.after(calls + " | 10 1", "-10")
        self.after(calls + " | 12 1", "0")
        self.after(calls + " | 11 1", f"0 {rest}")
        self.after(calls + " | 6 1", "-7")

    def is_frozen(self, calls, rest):
        self.after(calls + " | 2 1 0", "-7")
        self.after(calls + " | 12 1", "-7")
        self.after(calls + " | 6 1", "-7")
        self.after(calls + " | 11 1", f"0 {rest}")
        self.after(calls + " | 10 1", "0")

    def is_asleep(self, calls):
        self.after(calls + " | 5 1", "-7")
        self.after(calls + " | 11 1", "-7")
        self.after(calls + " | 6 1", "0")

    def has_holds(self, calls, holds):
        self.answered_last(calls + " | 10 1" * (holds + 1), ["0"] * holds + ["-10"])

    def answered_last(self, calls, expected):
        self.assertEqual(run(calls).split(" | ")[-len(expected):], expected, calls)

    def unknown_first(self, place, further):
        """-5 for every number that is no known id, also where the further number is out of its range."""
        for number in UNKNOWN:
            for value in further:
                self.after(f"0 1 5 | {place} {number} {value}", "-5")


class Join(Probes):
    def test_done(self):
        self.answered("0 1 5", "0")
        self.answered("0 7 0 | 0 3 -4 | 0 9 0", "0 | 0 | 0")
        self.is_on_current(ON_CURRENT)
        self.has_holds(ON_CURRENT, 0)

    def test_ids(self):
        self.answered("0 0 0 | 0 1 0 | 0 1000000000 0 | 0 1000000001 0", "-1 | 0 | 0 | -1")
        self.answered(f"0 -1 0 | 0 {-OUT} 0 | 0 {OUT} 0", "-1 | -1 | -1")

    def test_priorities(self):
        self.answered("0 1 -1001 | 0 2 -1000 | 0 3 1000 | 0 4 1001", "-2 | 0 | 0 | -2")
        self.answered(f"0 1 {-OUT} | 0 1 {OUT}", "-2 | -2")

    def test_known_id(self):
        self.answered("0 1 5 | 0 1 5 | 0 1 6 | 0 2 5", "0 | -3 | -3 | 0")
        for start in (ON_FUTURE, ON_FROZEN, ON_ASLEEP):
            self.after(start + " | 0 1 5", "-3")

    def test_full(self):
        full = joinall_of([(number, 0) for number in range(1, 2000)])
        self.answered(full + " | 0 2000 0 | 0 2001 0", "0 | 0 | -4")
        self.answered(full + " | 0 2000 0 | 7 5 | 0 2001 0 | 0 5 0", "0 | 0 | 0 | 0 | -4")

    def test_things_on_all_chains_count_as_known(self):
        full = joinall_of([(number, 0) for number in range(1, 2001)])
        self.after(full + " | 2 1 5 | 2 2 5 | 9 2 | 5 3 | 0 2001 0", "-4")

    def test_the_one_told_first(self):
        full = joinall_of([(number, 0) for number in range(1, 2001)])
        self.answered(full + " | 0 0 1001 | 0 1 1001 | 0 2001 1001 | 0 1 0 | 0 0 0",
                      "0 | -1 | -2 | -2 | -3 | -1")
        self.answered("0 1 5 | 0 1 1001", "0 | -2")

    def test_refused_changes_nothing(self):
        self.answered("0 1 1001 | 7 1 | 0 0 0 | 7 0", "-2 | -5 | -1 | -5")
        self.after(ON_FUTURE + " | 0 1 5 | 11 1", "0 30")


class Joinall(Probes):
    def test_done(self):
        self.answered("1 4 1 5 2 -5 | 7 1 | 7 2 | 7 3", "0 | 0 | 0 | -5")
        self.is_on_current("1 4 2 9 1 5")
        self.has_holds("1 4 2 9 1 5", 0)

    def test_no_numbers(self):
        self.answered("1 0 | 0 1 5", "0 | 0")

    def test_odd(self):
        self.answered("1 1 1 | 7 1", "-15 | -5")
        self.answered("1 3 1 5 2 | 7 1 | 7 2", "-15 | -5 | -5")

    def test_odd_is_told_first(self):
        self.answered("1 3 0 5 2 | 1 5 1 5 1 5 3 | 1 3 1 1001 2", "-15 | -15 | -15")

    def test_what_join_is_refused_by(self):
        self.answered("1 2 0 5 | 1 2 1000000001 5 | 1 2 1 1001 | 1 2 1 -1001", "-1 | -1 | -2 | -2")
        self.answered("1 4 1000000000 -1000 1 1000", "0")
        self.answered(f"1 2 {OUT} 0 | 1 2 {-OUT} 0 | 1 2 1 {OUT} | 1 2 1 {-OUT}", "-1 | -1 | -2 | -2")
        self.answered("0 1 5 | 1 2 1 5 | 1 4 2 5 1 5 | 7 2", "0 | -3 | -3 | -5")

    def test_refused_in_the_middle(self):
        self.answered("1 6 1 5 0 5 3 5 | 7 1 | 7 3", "-1 | -5 | -5")
        self.answered("1 6 1 5 2 1001 3 5 | 7 1 | 7 2 | 7 3", "-2 | -5 | -5 | -5")
        self.answered("0 2 5 | 2 2 30 | 1 6 1 5 2 5 3 5 | 7 1 | 7 3 | 11 2", "0 | 0 | -3 | -5 | -5 | 0 30")

    def test_the_first_refused_pair_counts(self):
        self.answered("1 4 1 1001 0 5 | 1 4 0 5 1 1001", "-2 | -1")
        self.answered("1 6 1 5 1 5 0 5 | 1 6 1 5 0 5 1 5", "-3 | -1")

    def test_same_id_twice(self):
        self.answered("1 4 1 5 1 5 | 7 1", "-3 | -5")
        self.answered("1 6 1 5 2 5 1 6 | 7 1 | 7 2", "-3 | -5 | -5")

    def test_2000_things(self):
        pairs = [(number, number % 7) for number in range(1, 2002)]
        self.answered(joinall_of(pairs[:2000]) + " | 7 2000 | 7 1", "0 | 0 | 0")
        self.answered(joinall_of(pairs) + " | 7 1 | 7 2000 | 7 2001", "-4 | -5 | -5 | -5")
        self.answered("0 5000 0 | " + joinall_of(pairs[:2000]) + " | 7 1", "0 | -4 | -5")
        self.answered("0 5000 0 | " + joinall_of(pairs[:1999]) + " | 0 5001 0", "0 | 0 | -4")

    def test_full_is_told_last(self):
        full = [(number, 0) for number in range(1, 2001)]
        self.answered(joinall_of(full + [(1, 0)]), "-3")
        self.answered(joinall_of(full + [(2001, 1001)]), "-2")
        self.answered(joinall_of(full + [(0, 1001)]), "-1")
        self.answered(joinall_of(full) + " | 1 0 | 1 2 1 0 | 1 2 2001 0", "0 | 0 | -3 | -4")

    def test_longest_row(self):
        pairs = [(number, 0) for number in range(1, 5001)]
        self.answered(joinall_of(pairs) + " | 7 1", "-4 | -5")


class Delay(Probes):
    def test_done(self):
        self.answered("0 1 5 | 2 1 30 | 11 1", "0 | 0 | 0 30")
        self.is_on_future(ON_FUTURE, 30)
        self.is_on_future(ON_ASLEEP + " | 2 1 7", 7)

    def test_range(self):
        self.answered(f"0 1 5 | 2 1 -1 | 2 1 {FAR + 1} | 2 1 {OUT} | 2 1 {-OUT}", "0 | -6 | -6 | -6 | -6")
        self.is_on_future("0 1 5 | 2 1 0", 0)
        self.is_on_future(f"0 1 5 | 2 1 {FAR}", FAR)

    def test_held_is_frozen(self):
        self.is_frozen("0 1 5 | 9 1 | 2 1 30", 30)
        self.is_frozen(f"0 1 5 | 9 1 | 9 1 | 2 1 {FAR}", FAR)
        self.is_frozen("0 1 5 | 9 1 | 5 1 | 2 1 0", 0)
        self.has_holds("0 1 5 | 9 1 | 9 1 | 2 1 30", 2)
        self.is_on_future("0 1 5 | 9 1 | 2 1 30 | 10 1", 30)

    def test_refused(self):
        self.unknown_first(2, (5, -1, FAR + 1))
        self.after(ON_FUTURE + " | 2 1 5", "-7")
        self.after(ON_FROZEN + " | 2 1 5", "-7")

    def test_the_one_told_first(self):
        self.after(ON_FUTURE + " | 2 1 -1", "-6")
        self.after(ON_FROZEN + f" | 2 1 {FAR + 1}", "-6")

    def test_refused_changes_nothing(self):
        self.is_on_future(ON_FUTURE + " | 2 1 5 | 2 1 -1", 30)
        self.is_frozen(ON_FROZEN + " | 2 1 5", 30)
        self.is_on_current(ON_CURRENT + " | 2 1 -1")
        self.is_asleep(ON_ASLEEP + f" | 2 1 {FAR + 1}")


class At(Probes):
    def test_done(self):
        self.is_on_future("0 1 5 | 3 1 30", 30)
        self.is_on_future(ON_ASLEEP + " | 3 1 7", 7)

    def test_range_at_clock_0(self):
        self.answered(f"0 1 5 | 3 1 -1 | 3 1 {FAR + 1} | 3 1 {END} | 3 1 {END + 1}", "0 | -6 | -6 | -6 | -6")
        self.answered(f"0 1 5 | 3 1 {OUT} | 3 1 {-OUT}", "0 | -6 | -6")
        self.is_on_future("0 1 5 | 3 1 0", 0)
        self.is_on_future(f"0 1 5 | 3 1 {FAR}", FAR)

    def test_held_is_frozen(self):
        self.is_frozen("0 1 5 | 9 1 | 3 1 30", 30)
        self.is_frozen("0 1 5 | 9 1 | 5 1 | 3 1 30", 30)

    def test_refused(self):
        self.unknown_first(3, (5, -1, FAR + 1, END + 1))
        self.after(ON_FUTURE + " | 3 1 5", "-7")
        self.after(ON_FROZEN + " | 3 1 5", "-7")

    def test_the_one_told_first(self):
        for time in (-1, FAR + 1, END + 1):
            self.after(ON_FUTURE + f" | 3 1 {time}", "-6")
            self.after(ON_FROZEN + f" | 3 1 {time}", "-6")

    def test_refused_changes_nothing(self):
        self.is_on_future(ON_FUTURE + " | 3 1 5 | 3 1 -1", 30)
        self.is_frozen(ON_FROZEN + " | 3 1 5", 30)
        self.is_on_current(ON_CURRENT + f" | 3 1 -1 | 3 1 {FAR + 1}")


class Retime(Probes):
    def test_done(self):
        self.is_on_future(ON_FUTURE + " | 4 1 9", 9)
        self.is_on_future(ON_FUTURE + " | 4 1 30", 30)

    def test_frozen(self):
        self.is_frozen(ON_FROZEN + " | 4 1 9", 9)
        self.has_holds(ON_FROZEN + " | 9 1 | 4 1 9", 2)
        self.is_on_future(ON_FROZEN + " | 4 1 9 | 10 1", 9)

    def test_range(self):
        for start in (ON_FUTURE, ON_FROZEN):
            for wait in (-1, FAR + 1, OUT, -OUT):
                self.after(start + f" | 4 1 {wait}", "-6")
        self.is_on_future(ON_FUTURE + " | 4 1 0", 0)
        self.is_on_future(ON_FUTURE + f" | 4 1 {FAR}", FAR)
        self.is_frozen(ON_FROZEN + " | 4 1 0", 0)
        self.is_frozen(ON_FROZEN + f" | 4 1 {FAR}", FAR)

    def test_refused(self):
        self.unknown_first(4, (5, -1, FAR + 1))
        self.after(ON_CURRENT + " | 4 1 5", "-7")
        self.after(ON_ASLEEP + " | 4 1 5", "-7")

    def test_the_one_told_first(self):
        self.after(ON_CURRENT + " | 4 1 -1", "-6")
        self.after(ON_ASLEEP + f" | 4 1 {FAR + 1}", "-6")

    def test_refused_changes_nothing(self):
        self.is_on_current(ON_CURRENT + " | 4 1 5")
        self.is_asleep(ON_ASLEEP + " | 4 1 5")
        self.is_on_future(ON_FUTURE + " | 4 1 -1", 30)
        self.is_frozen(ON_FROZEN + f" | 4 1 {FAR + 1}", 30)


class Sleep(Probes):
    def test_done_from_every_chain(self):
        for start in (ON_CURRENT, ON_FUTURE, ON_FROZEN):
            self.after(start + " | 5 1", "0")
            self.is_asleep(start + " | 5 1")

    def test_due_and_rest_are_lost(self):
        self.is_on_current(ON_FUTURE + " | 5 1 | 6 1")
        self.is_on_current(ON_FROZEN + " | 5 1 | 6 1")

    def test_holds_stay(self):
        self.has_holds(ON_FROZEN + " | 9 1 | 5 1", 2)
        self.is_asleep(ON_FROZEN + " | 5 1 | 10 1")

    def test_refused(self):
        self.unknown_first(5, ("",))
        self.after(ON_ASLEEP + " | 5 1", "-7")
        self.is_asleep(ON_ASLEEP + " | 5 1")


class Wake(Probes):
    def test_done(self):
        self.after(ON_ASLEEP + " | 6 1", "0")
        self.is_on_current(ON_ASLEEP + " | 6 1")

    def test_holds_stay(self):
        self.has_holds("0 1 5 | 5 1 | 9 1 | 6 1", 1)
        self.is_on_current("0 1 5 | 5 1 | 9 1 | 6 1")

    def test_refused(self):
        self.unknown_first(6, ("",))
        for start in (ON_CURRENT, ON_FUTURE, ON_FROZEN):
            self.after(start + " | 6 1", "-7")
        self.is_on_future(ON_FUTURE + " | 6 1", 30)
        self.is_frozen(ON_FROZEN + " | 6 1", 30)


class Drop(Probes):
    def test_done_from_every_chain(self):
        for start in (ON_CURRENT, ON_FUTURE, ON_FROZEN, ON_ASLEEP):
            self.answered_last(start + " | 7 1 | 7 1 | 5 1", ["0", "-5", "-5"])
            self.is_on_current(start + " | 7 1 | 0 1 5")

    def test_holds_go_with_it(self):
        self.has_holds("0 1 5 | 9 1 | 9 1 | 7 1 | 0 1 5", 0)

    def test_the_others_stay(self):
        self.answered("1 4 1 5 2 5 | 2 2 30 | 7 1 | 11 2", "0 | 0 | 0 | 0 30")

    def test_refused(self):
        self.unknown_first(7, ("",))


class Rank(Probes):
    def test_done_on_every_chain(self):
        self.is_on_current(ON_CURRENT + " | 8 1 9")
        self.is_on_future(ON_FUTURE + " | 8 1 9", 30)
        self.is_frozen(ON_FROZEN + " | 8 1 9", 30)
        self.is_asleep(ON_ASLEEP + " | 8 1 9")
        self.has_holds("0 1 5 | 9 1 | 8 1 9", 1)

    def test_range(self):
        for start in (ON_CURRENT, ON_FUTURE, ON_FROZEN, ON_ASLEEP):
            self.answered_last(start + " | 8 1 -1001 | 8 1 -1000 | 8 1 1000 | 8 1 1001", ["-2", "0", "0", "-2"])
            self.answered_last(start + f" | 8 1 {OUT} | 8 1 {-OUT}", ["-2", "-2"])

    def test_refused(self):
        self.unknown_first(8, (5, -1001, 1001))


class Hold(Probes):
    def test_stays_where_it_is(self):
        self.is_on_current(ON_CURRENT + " | 9 1")
        self.is_asleep(ON_ASLEEP + " | 9 1")
        self.is_frozen(ON_FROZEN + " | 9 1", 30)
        self.has_holds(ON_CURRENT + " | 9 1 | 9 1 | 9 1", 3)

    def test_future_is_frozen(self):
        self.is_frozen(ON_FUTURE + " | 9 1", 30)
        self.is_frozen("0 1 5 | 2 1 0 | 9 1", 0)
        self.is_frozen(f"0 1 5 | 2 1 {FAR} | 9 1", FAR)
        self.has_holds(ON_FUTURE + " | 9 1", 1)

    def test_refused(self):
        self.unknown_first(9, ("",))

    def test_only_its_own_holds(self):
        self.answered("1 4 1 5 2 5 | 9 1 | 10 2 | 10 1", "0 | 0 | -10 | 0")


class Free(Probes):
    def test_last_hold_of_a_frozen_thing(self):
        self.is_on_future(ON_FROZEN + " | 10 1", 30)
        self.is_frozen(ON_FROZEN + " | 9 1 | 10 1", 30)
        self.is_on_future(ON_FROZEN + " | 9 1 | 10 1 | 10 1", 30)

    def test_stays_where_it_is(self):
        self.is_on_current(ON_CURRENT + " | 9 1 | 10 1")
        self.is_asleep(ON_ASLEEP + " | 9 1 | 10 1")
        self.is_on_current(ON_FROZEN + " | 11 1 | 10 1")

    def test_refused(self):
        self.unknown_first(10, ("",))
        for start in (ON_CURRENT, ON_FUTURE, ON_ASLEEP):
            self.after(start + " | 10 1", "-10")
        self.has_holds(ON_CURRENT + " | 10 1 | 9 1", 1)
        self.is_on_future(ON_FUTURE + " | 10 1", 30)


class Fetch(Probes):
    def test_rest(self):
        self.after(ON_CURRENT + " | 11 1", "0 0")
        self.after(ON_FUTURE + " | 11 1", "0 30")
        self.after(ON_FROZEN + " | 11 1", "0 30")
        self.after(f"0 1 5 | 2 1 {FAR} | 11 1", f"0 {FAR}")
        self.after("0 1 5 | 2 1 0 | 11 1", "0 0")

    def test_goes_to_current(self):
        self.is_on_current(ON_CURRENT + " | 11 1")
        self.is_on_current(ON_FUTURE + " | 11 1")
        self.is_on_current(ON_FROZEN + " | 11 1")

    def test_holds_stay(self):
        self.has_holds(ON_FROZEN + " | 9 1 | 11 1", 2)
        self.is_frozen(ON_FROZEN + " | 11 1 | 2 1 4", 4)
        self.has_holds("0 1 5 | 9 1 | 11 1", 1)

    def test_refused(self):
        self.unknown_first(11, ("",))
        self.after(ON_ASLEEP + " | 11 1", "-7")
        self.is_asleep(ON_ASLEEP + " | 11 1")


class Ahead(Probes):
    def test_stays_on_its_chain(self):
        self.is_on_current(ON_CURRENT + " | 12 1")
        self.is_on_future(ON_FUTURE + " | 12 1", 30)
        self.has_holds("0 1 5 | 9 1 | 12 1", 1)

    def test_refused(self):
        self.unknown_first(12, ("",))
        self.after(ON_FROZEN + " | 12 1", "-7")
        self.after(ON_ASLEEP + " | 12 1", "-7")
        self.is_frozen(ON_FROZEN + " | 12 1", 30)
        self.is_asleep(ON_ASLEEP + " | 12 1")


if __name__ == "__main__":
    unittest.main()
