"""answers: calls one behind another in one list, and what it leaves as it was."""

import contextlib
import io
import unittest

from helper import C, D, I, L, M, R, T, V
from helper import begin, flat, is_on, kept, net, now, start, step, wave
from networktime.runs import answers

HUGE = 4294967295
RESISTOR = [1, 8, 1, 0, 1, 0, 0, 0, 1, 1, 0]
# V of 0 at time 0 and -3 from time 1 on, R of 1 and C of 1 in a row, D of 1/2 across R.
FOUR = [1, 29, 2, 4, 1, 0, 0, 0, 0, 1, 0, 1, 2, 0, 0, 1, 1, 1, 2, 0, 0, 0, 1, 1, 13, 1, 2, 0, 0, 1, 2,
        11, 2, 0, 1, 0, 1, 0, 1, 1, 1, -3, 1]


class Locked(list):
    """A list that doesn't let itself be changed, not for a while either."""

    def refuse(self, *values, **names):
        raise AssertionError("the list handed in was to be changed")

    append = clear = extend = insert = pop = remove = reverse = sort = refuse
    __setitem__ = __delitem__ = __iadd__ = __imul__ = refuse


class Form(unittest.TestCase):
    def test_one_call(self):
        self.assertEqual(answers(RESISTOR), [1, 0])
        self.assertEqual(answers([2, 0, 1, 1, 0]), [1, -8])
        self.assertEqual(answers([3, 5]), [1, -8])
        self.assertEqual(answers([4, 0, 0]), [1, -8])
        self.assertEqual(answers([5, 0]), [1, -8])
        self.assertEqual(answers([6, 0]), [1, -8])

    def test_several_calls(self):
        self.assertEqual(answers(RESISTOR + [2, 0, 1, 1, 0, 3, 5]), [1, 0, 1, 0, 2, 0, 5])
        self.assertEqual(answers([3, 1] + RESISTOR + [3, 1, 2, 2, 1, 1, 0, 2, 0, 1, 1, 0, 3, 101, 3, 0]),
                         [1, -8, 1, 0, 1, -8, 1, -1, 1, 0, 1, -1, 2, 0, 0])

    def test_all_six_calls(self):
        calls = FOUR + [2, 0, 1, 1, 0] + [4, 4, 9, 4, 0, 2, 5, 3, 6, 2] + [3, 1] + [4, 4, 0, 4, 0, 2, 4, 1, 2, 4, 2, 1]
        told = [1, 0, 1, 0, 3, 0, 0, 1, 3, 0, 0, 1, 2, 0, 0, 5, 0, 0, 1, 0, 1, 2, 0, 1]
        told += [3, 0, 1, 1, 3, 0, -3, 2, 3, 0, -3, 2, 3, 0, -3, 2]
        self.assertEqual(answers(calls), told)
        calls += [4, 3, 2, 4, 3, 0, 5, 3, 6, 2] + [3, 1] + [4, 0, 2, 4, 0, 1, 4, 0, 0, 6, 2]
        told += [3, 0, 9, 4, 3, 0, -9, 2, 2, 0, 0, 5, 0, -2, 1, -2, 1, 2, 0, 1]
        told += [3, 0, -5, 2, 3, 0, -3, 1, 3, 0, 0, 1, 5, 0, -2, 1, 0, 1]
        self.assertEqual(answers(calls), told)

    def test_refusals_of_now_is_on_and_kept(self):
        calls = FOUR + [4, 0, 1, 5, 3, 6, 2] + [2, 0, 1, 1, 0] + [4, 0, 3, 4, 1, 4, 4, 5, 0, 5, 2, 5, 4, 6, 3, 6, 4]
        calls += [4, HUGE, 0, 4, 0, HUGE, 5, HUGE, 6, HUGE, 4, 4, HUGE]
        self.assertEqual(answers(calls), [1, 0] + [1, -8] * 3 + [1, 0] + [1, -3] * 11 + [3, 0, 0, 1])

    def test_in_any_order(self):
        calls = [6, 0, 5, 0, 4, 4, 0, 3, 1, 2, 0, 1, 1, 0] + RESISTOR + [6, 0, 5, 0, 4, 4, 0, 3, 1, 2, 0, 2, 1, 0]
        calls += [6, 0, 5, 0, 4, 4, 0, 3, 1, 4, 4, 0] + RESISTOR + [4, 4, 0]
        told = [1, -8] * 5 + [1, 0] + [1, -8] * 4 + [1, 0]
        told += [1, -3, 1, -3, 3, 0, 0, 1, 2, 0, 1, 3, 0, 2, 1] + [1, 0, 1, -8]
        self.assertEqual(answers(calls), told)

    def test_refusals_with_numbers_behind(self):
        self.assertEqual(answers([1, 8, 1, 0, 1, 0, 0, 0, 0, 1, 0]), [3, -2, 0, 2])
        self.assertEqual(answers([1, 8, 1, 0, 2, 0, 0, 0, 1, 1, 0]), [3, -2, 0, 1])
        self.assertEqual(answers([1, 8, 1, 8, 1, 0, 0, 0, 1, 1, 0]), [3, -2, 0, 3])
        self.assertEqual(answers([1, 8, 1, 4, 1, 0, 0, 0, 1, 1, 0]), [2, -3, 0])
        self.assertEqual(answers([1, 8, 1, 0, 1, 0, 0, 0, 1, 1, 2, 7, 7]), [2, -3, 1])

    def test_empty_rows(self):
        self.assertEqual(answers([1, 0, 0, 1, 1, 1, 0]), [1, -1, 1, 0])
        self.assertEqual(answers([1, 0, 0] + [1, 1, 1, 0] + [2, 0, 1, 1, 0]), [1, -1, 1, 0, 1, -4])

    def test_numbers_in_rows_are_not_calls(self):
        self.assertEqual(answers([1, 5, 3, 3, 3, 3, 3, 3, 3, 3, 3, 3, 9]), [1, -1, 1, -8])

    def test_the_longest_rows(self):
        row = [1, 120] + [4294967295, -4294967295] * 60 + [300] + [-4294967295] * 300
        self.assertEqual(answers(row * 50), [1, -1] * 50)

    def test_a_hundred_calls(self):
        self.assertEqual(answers(RESISTOR + [2, 1, 1, 7, 64] + [3, 100] * 98), [1, 0, 1, 0] + [2, 0, 100] * 98)
        told = [1, 0, 1, 0]
        for k in range(1, 50):
            told += [2, 0, 7, 3, 0, k, 1]
        self.assertEqual(answers(RESISTOR + [2, 1, 1, 7, 64] + [3, 7, 4, 4, 0] * 49), told)

    def test_kinds_of_numbers(self):
        told = answers(FOUR + [2, 0, 1, 1, 0, 3, 1, 4, 4, 0, 4, 0, 0, 4, 0, 1, 4, 3, 2, 5, 3, 6, 2, 5, 0])
        self.assertEqual([type(number) for number in told], [int] * len(told))
        self.assertIs(type(told), list)


class Apart(unittest.TestCase):
    CALLS = [number for call in (
        step(1), now(4), is_on(0), kept(0),
        begin(net(3, V(1, 0), R(1, 2, 2), C(2, 0, 1), D(2, 3, 1), R(3, 0, 1)), wave((0, 0), (1, 9), (3, -9), period=4)),
        now(4), start(1, 1, 3, 9), now(0, 2), step(50), is_on(3), kept(2), step(7), is_on(3), kept(2), now(3, 1), now(4),
        begin(net(2, L(1, 0, 1), L(2, 0, 1), M(0, 1, 1), I(1, 0), T(1, 0, 2, 0, 1)), flat(1)), start(), step(3),
        now(1, 4), now(1, 2), now(2, 0), kept(0), kept(1), kept(2), is_on(0),
        begin(net(1, V(1, 0), D(1, 0, 5)), wave((0, 0), (7, 7))), start(), step(100), step(1), begin([9]), step(1),
    ) for number in call]

    def test_the_list_is_as_it_was(self):
        calls = list(self.CALLS)
        answers(calls)
        self.assertEqual(calls, self.CALLS)
        self.assertEqual(answers(Locked(self.CALLS)), answers(calls))

    def test_a_second_time_answers_as_the_first(self):
        first = answers(list(self.CALLS))
        self.assertEqual(answers([3, 1]), [1, -8])
        self.assertEqual(answers([2, 0, 1, 1, 1]), [1, -8])
        self.assertEqual(answers([4, 4, 0, 5, 0, 6, 0]), [1, -8, 1, -8, 1, -8])
        self.assertEqual(answers(list(self.CALLS)), first)

    def test_what_is_given_back_is_not_kept(self):
        first = answers(list(self.CALLS))
        again = list(first)
        first.clear()
        self.assertEqual(answers(list(self.CALLS)), again)

    def test_it_prints_nothing(self):
        out = io.StringIO()
        with contextlib.redirect_stdout(out), contextlib.redirect_stderr(out):
            answers(list(self.CALLS))
        self.assertEqual(out.getvalue(), "")


if __name__ == "__main__":
    unittest.main()
