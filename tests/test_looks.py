"""The calls that only tell: ready (13), first (14), where (18), chain (19), sizes (20) and told (22)."""

import unittest

from tests.helper import END, FAR, OUT, CallsCase, load_of, row_of, told_of

# Two things or more on each chain, with holds wherever there may be some.
FULL = row_of(
    100,
    current=[(3, 9, 1), (1, 9, 0), (9, 5, 1000), (2, 5, 0), (8, -7, 0)],
    future=[(15, -3, 100), (11, 4, 130), (12, 0, 130)],
    frozen=[(20, 2, 1, 40), (21, -2, 1000, 0), (22, 6, 3, FAR)],
    asleep=[(30, 1, 0), (31, 8, 2)],
)


class Ready(CallsCase):
    def test_empty(self):
        self.answered("13", "0 0")

    def test_in_order(self):
        self.answered("1 6 1 5 2 9 3 5 | 13", "0 | 0 3 2 1 3")

    def test_without_those_that_have_holds(self):
        self.on(FULL, "13", "0 3 1 2 8", FULL)
        self.answered("1 6 1 5 2 9 3 5 | 9 2 | 13 | 9 3 | 13 | 9 1 | 13 | 10 2 | 13",
                      "0 | 0 | 0 2 1 3 | 0 | 0 1 1 | 0 | 0 0 | 0 | 0 1 2")

    def test_other_chains_do_not_count(self):
        row = row_of(0, future=[(1, 0, 0)], frozen=[(2, 0, 1, 0)], asleep=[(3, 0, 0)])
        self.on(row, "13", "0 0", row)

    def test_one_hold_of_two_is_still_one(self):
        self.answered("0 1 5 | 9 1 | 9 1 | 10 1 | 13 | 10 1 | 13", "0 | 0 | 0 | 0 | 0 0 | 0 | 0 1 1")


class First(CallsCase):
    def test_empty(self):
        self.answered("14", "0 0")

    def test_the_first_without_holds(self):
        self.on(FULL, "14", "0 1", FULL)
        self.answered("1 6 1 5 2 9 3 5 | 14 | 9 2 | 14 | 9 1 | 14 | 9 3 | 14 | 10 1 | 14",
                      "0 | 0 2 | 0 | 0 1 | 0 | 0 3 | 0 | 0 0 | 0 | 0 1")

    def test_other_chains_do_not_count(self):
        row = row_of(0, future=[(1, 0, 0)], frozen=[(2, 0, 1, 0)], asleep=[(3, 0, 0)])
        self.on(row, "14", "0 0", row)

    def test_among_equals(self):
        self.answered("1 4 2 5 1 5 | 14 | 12 1 | 14 | 8 1 5 | 14", "0 | 0 2 | 0 | 0 1 | 0 | 0 2")


class Where(CallsCase):
    def where(self, row, number, expected):
        self.on(row, f"18 {number}", expected, row)

    def test_current(self):
        self.where(FULL, 3, "0 0 9 1 0 0")
        self.where(FULL, 1, "0 0 9 0 0 1")
        self.where(FULL, 9, "0 0 5 1000 0 2")
        self.where(FULL, 2, "0 0 5 0 0 3")
        self.where(FULL, 8, "0 0 -7 0 0 4")

    def test_future(self):
        self.where(FULL, 15, "0 1 -3 0 100 0")
        self.where(FULL, 11, "0 1 4 0 130 1")
        self.where(FULL, 12, "0 1 0 0 130 2")

    def test_frozen(self):
        self.where(FULL, 20, "0 2 2 1 40 0")
        self.where(FULL, 21, "0 2 -2 1000 0 1")
        self.where(FULL, 22, f"0 2 6 3 {FAR} 2")

    def test_asleep(self):
        self.where(FULL, 30, "0 3 1 0 0 0")
        self.where(FULL, 31, "0 3 8 2 0 1")

    def test_as_it_goes_from_chain_to_chain(self):
        self.answered("1 4 1 5 2 6 | 18 1 | 2 1 30 | 18 1 | 9 1 | 18 1 | 5 1 | 18 1 | 6 1 | 18 1",
                      "0 | 0 0 5 0 0 1 | 0 | 0 1 5 0 30 0 | 0 | 0 2 5 1 30 0 | 0 | 0 3 5 1 0 0 | 0 | 0 0 5 1 0 1")

    def test_a_due_above_the_end(self):
        self.where(row_of(END, future=[(1, 0, END + FAR)]), 1, f"0 1 0 0 {END + FAR} 0")

    def test_not_known(self):
        for number in (-OUT, -1, 0, 4, 10 ** 9, 10 ** 9 + 1, OUT):
            self.refused(FULL, f"18 {number}", -5)
            self.answered(f"18 {number}", "-5")
        self.answered("0 1 5 | 7 1 | 18 1", "0 | 0 | -5")

    def test_greatest_id(self):
        self.answered(f"0 {10 ** 9} -1000 | 18 {10 ** 9}", "0 | 0 0 -1000 0 0 0")


class Chain(CallsCase):
    def test_empty(self):
        self.answered("19 0 | 19 1 | 19 2 | 19 3", "0 0 | 0 0 | 0 0 | 0 0")

    def test_each(self):
        self.on(FULL, "19 0 | 19 1 | 19 2 | 19 3",
                "0 5 3 1 9 2 8 | 0 3 15 11 12 | 0 3 20 21 22 | 0 2 30 31", FULL)

    def test_range(self):
        for chain in (-OUT, -2, -1, 4, 5, OUT):
            self.refused(FULL, f"19 {chain}", -13)
            self.answered(f"19 {chain}", "-13")


class Sizes(CallsCase):
    def test_empty(self):
        self.answered("20", "0 0 0 0 0 0")

    def test_each(self):
        self.on(FULL, "20", "0 100 5 3 3 2", FULL)

    def test_as_things_move(self):
        self.answered("1 6 1 5 2 5 3 5 | 20 | 2 1 30 | 20 | 9 1 | 20 | 5 2 | 20 | 7 3 | 20 | 16 9 | 20",
                      "0 | 0 0 3 0 0 0 | 0 | 0 0 2 1 0 0 | 0 | 0 0 2 0 1 0 | 0 | 0 0 1 0 1 1 | 0 | 0 0 0 0 1 1"
                      " | 0 0 0 | 0 9 0 0 1 1")

    def test_2000(self):
        current = [(number, 0, 0) for number in range(1, 2001)]
        self.after(load_of(row_of(END, current=current)) + " | 20", f"0 {END} 2000 0 0 0")


class Told(CallsCase):
    def test_empty(self):
        self.answered("22", "0 5 0 0 0 0 0")
        self.answered("16 77 | 22", "0 0 0 | 0 5 77 0 0 0 0")

    def test_each_chain_alone(self):
        self.answered("0 1 5 | 22", "0 | 0 8 0 1 1 5 0 0 0 0")
        self.answered("0 1 5 | 9 1 | 9 1 | 22", "0 | 0 | 0 | 0 8 0 1 1 5 2 0 0 0")
        self.answered("0 1 5 | 2 1 30 | 22", "0 | 0 | 0 8 0 0 1 1 5 30 0 0")
        self.answered("0 1 5 | 2 1 30 | 9 1 | 22", "0 | 0 | 0 | 0 9 0 0 0 1 1 5 1 30 0")
        self.answered("0 1 5 | 9 1 | 5 1 | 22", "0 | 0 | 0 | 0 8 0 0 0 0 1 1 5 1")

    def test_all_chains(self):
        self.after(load_of(FULL) + " | 22",
                   f"0 47 100 5 3 9 1 1 9 0 9 5 1000 2 5 0 8 -7 0 3 15 -3 100 11 4 130 12 0 130"
                   f" 3 20 2 1 40 21 -2 1000 0 22 6 3 {FAR} 2 30 1 0 31 8 2")

    def test_by_calls_alone(self):
        self.after("1 12 1 5 2 5 3 9 4 -1 5 0 6 0 | 16 10 | 2 1 30 | 2 2 20 | 2 4 20 | 9 1 | 5 5 | 9 3 | 5 6 | 22",
                   "0 24 10 1 3 9 1 2 2 5 30 4 -1 30 1 1 5 1 30 2 5 0 0 6 0 0")

    def test_twice_alike(self):
        self.after(load_of(FULL) + " | 22 | 22", told_of(FULL))

    def test_2000_frozen(self):
        row = row_of(END, frozen=[(number, -1000, 1000, FAR) for number in range(1, 2001)])
        self.assertEqual(len(row), 8005)
        self.state_after(load_of(row), row)


if __name__ == "__main__":
    unittest.main()
