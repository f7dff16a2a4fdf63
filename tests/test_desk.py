"""The function waitchains.desk.answers: what is handed in, what is given back, what is left alone."""

import contextlib
import inspect
import io
import unittest

from waitchains import desk
from waitchains.desk import answers
from tests.helper import joinall_of, load_of, numbers_of, row_of


class Untouched(list):
    """A list that can be read but not changed, not for a while either."""

    def changed(self, *rest, **named):
        raise AssertionError("what is handed in was changed")

    append = clear = extend = insert = pop = remove = reverse = sort = changed
    __setitem__ = __delitem__ = __iadd__ = __imul__ = changed


# Each call done once, then each call that can be refused.
EVERY_CALL = (
    "0 1 5 | 1 4 2 5 3 -5 | 2 1 10 | 3 2 20 | 4 1 30 | 9 1 | 10 1 | 12 1 | 11 1 | 8 1 7 | 5 3 | 6 3 | 7 2"
    " | 13 | 14 | 2 1 10 | 21 | 17 5 | 15 | 16 40 | 18 3 | 19 0 | 20 | 22 | 24 | 23 8 9 0 0 0 1 4 5 6 | 22"
    " | 0 0 0 | 1 3 1 2 3 | 2 9 9 | 3 9 9 | 4 9 9 | 5 9 | 6 9 | 7 9 | 8 9 9 | 9 9 | 10 9 | 11 9 | 12 9"
    " | 15 | 16 8 | 17 -1 | 18 9 | 19 4 | 21 | 23 0"
)
EVERY_ANSWER = (
    [1, 0] * 8 + [2, 0, 30] + [1, 0] * 4
    + [4, 0, 2, 1, 3, 2, 0, 1, 1, 0, 3, 0, 10, 1, 1, 0, 4, 0, 15, 1, 1, 3, 0, 0, 0, 6, 0, 0, -5, 0, 0, 1]
    + [4, 0, 2, 1, 3, 6, 0, 40, 2, 0, 0, 0, 13, 0, 11, 40, 2, 1, 7, 0, 3, -5, 0, 0, 0, 0, 1, 0, 1, 0]
    + [10, 0, 8, 9, 0, 0, 0, 1, 4, 5, 6]
    + [1, -1, 1, -15] + [1, -5] * 11
    + [1, -11, 1, -6, 1, -6, 1, -5, 1, -13, 1, -11, 1, -14]
)


class Answers(unittest.TestCase):
    def test_each_answer_has_its_length_before_it(self):
        self.assertEqual(answers([0, 1, 5]), [1, 0])
        self.assertEqual(answers([0, 1, 5, 2, 1, 30, 11, 1]), [1, 0, 1, 0, 2, 0, 30])
        self.assertEqual(answers([11, 1]), [1, -5])
        self.assertEqual(answers(numbers_of(EVERY_CALL)), EVERY_ANSWER)

    def test_a_row_stands_between_calls(self):
        self.assertEqual(answers([0, 7, 7, 1, 0, 1, 4, 0, 5, 5, 5, 1, 2, 6, 6, 7, 6, 7, 7]),
                         [1, 0, 1, 0, 1, -1, 1, 0, 1, 0, 1, 0])
        self.assertEqual(answers([1, 3, 12, 12, 12, 0, 1, 5]), [1, -15, 1, 0])
        self.assertEqual(answers([23, 5, 7, 0, 0, 0, 0, 20, 23, 0, 20, 23, 3, 24, 24, 24, 20]),
                         [1, 0, 6, 0, 7, 0, 0, 0, 0, 1, -14, 6, 0, 7, 0, 0, 0, 0, 1, -14, 6, 0, 7, 0, 0, 0, 0])
        self.assertEqual(answers([20, 23, 8, 9, 1, 23, 0, 0, 0, 0, 0, 19, 0]),
                         [6, 0, 0, 0, 0, 0, 0, 1, 0, 3, 0, 1, 23])
        self.assertEqual(answers([1, 2, 23, 23, 18, 23]), [1, 0, 6, 0, 0, 23, 0, 0, 0])

    def test_each_list_has_its_length_before_it(self):
        self.assertEqual(answers([13]), [2, 0, 0])
        self.assertEqual(answers([19, 3]), [2, 0, 0])
        self.assertEqual(answers([16, 5]), [3, 0, 0, 0])
        self.assertEqual(answers([22]), [7, 0, 5, 0, 0, 0, 0, 0])
        self.assertEqual(answers([1, 4, 8, 0, 9, 0, 13, 19, 0]), [1, 0, 4, 0, 2, 8, 9, 4, 0, 2, 8, 9])
        self.assertEqual(answers([1, 4, 8, 0, 9, 0, 2, 9, 4, 2, 8, 4, 15]), [1, 0, 1, 0, 1, 0, 5, 0, 4, 2, 9, 8])

    def test_what_is_one_number_has_no_length_before_it(self):
        self.assertEqual(answers([14, 20, 0, 1, 5, 14, 18, 1]), [2, 0, 0, 6, 0, 0, 0, 0, 0, 0, 1, 0, 2, 0, 1,
                                                                 6, 0, 0, 5, 0, 0, 0])
        self.assertEqual(answers([0, 1, 5, 2, 1, 7, 21, 11, 1]), [1, 0, 1, 0, 3, 0, 7, 1, 2, 0, 7])

    def test_plain_whole_numbers_in_a_plain_list(self):
        answered = answers(numbers_of(EVERY_CALL))
        self.assertIs(type(answered), list)
        self.assertEqual({type(number) for number in answered}, {int})

    def test_120_calls(self):
        calls = numbers_of("0 1 5" + " | 9 1" * 59 + " | 10 1" * 60)
        self.assertEqual(answers(calls), [1, 0] * 119 + [1, -10])

    def test_as_long_as_may_be(self):
        row = joinall_of([(number, 0) for number in range(1, 5001)])
        short = joinall_of([(number, 0) for number in range(1, 1999)])
        self.assertEqual(answers(numbers_of(row + " | " + short + " | 0 1999 0 | 0 2000 0")), [1, -4] + [1, 0] * 3)

    def test_as_long_as_may_be_with_loads(self):
        state = row_of(1, frozen=[(number, 0, 1, number) for number in range(1, 1996)])
        calls = numbers_of(load_of(state) + " | " + load_of(state)) + [20] * 18
        self.assertEqual(len(calls), 15992)
        self.assertTrue(answers(calls) == [1, 0] * 2 + [6, 0, 1, 0, 0, 1995, 0] * 18)

    def test_long_answers(self):
        state = row_of(1, frozen=[(number, 0, 1, number) for number in range(1, 2001)])
        told = [8007, 0, 8005] + state
        # Not assertEqual, which takes minutes to show where lists as long as these differ.
        self.assertTrue(answers(numbers_of(load_of(state)) + [22] * 119) == [1, 0] + told * 119)

    def test_what_is_handed_in_is_not_changed(self):
        calls = numbers_of(EVERY_CALL)
        before = list(calls)
        answers(calls)
        self.assertEqual(calls, before)
        self.assertEqual(answers(Untouched(before)), EVERY_ANSWER)

    def test_nothing_is_kept(self):
        calls = numbers_of(EVERY_CALL)
        first = answers(calls)
        self.assertEqual(answers(calls), first)
        self.assertEqual(answers([7, 1]), [1, -5])
        self.assertEqual(answers([16, 99]), [3, 0, 0, 0])
        self.assertEqual(answers([22]), [7, 0, 5, 0, 0, 0, 0, 0])
        self.assertEqual(answers(calls), first)

    def test_nothing_is_kept_of_a_load(self):
        calls = numbers_of(load_of(row_of(7, [(1, 5, 0)], [(2, 5, 9)])) + " | 17 3 | 9 1 | 22")
        first = answers(calls)
        self.assertEqual(answers(calls), first)
        self.assertEqual(answers([20]), [6, 0, 0, 0, 0, 0, 0])

    def test_what_is_given_back_is_new(self):
        first = answers([0, 1, 5])
        first.append(9)
        self.assertEqual(answers([0, 1, 5]), [1, 0])
        told = answers([22])
        told.clear()
        self.assertEqual(answers([22]), [7, 0, 5, 0, 0, 0, 0, 0])

    def test_nothing_is_printed(self):
        out = io.StringIO()
        err = io.StringIO()
        with contextlib.redirect_stdout(out), contextlib.redirect_stderr(err):
            answers(numbers_of(EVERY_CALL))
        self.assertEqual((out.getvalue(), err.getvalue()), ("", ""))

    def test_its_argument(self):
        self.assertEqual(list(inspect.signature(answers).parameters), ["calls"])
        self.assertEqual(answers(calls=[0, 1, 5]), [1, 0])
        self.assertIs(desk.answers, answers)


if __name__ == "__main__":
    unittest.main()
