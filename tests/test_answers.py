"""answers: calls one behind another in one list, and what it leaves as it was."""

import contextlib
import io
import unittest

from helper import C, D, I, L, M, R, T, V
from helper import begin, flat, net, start, step, wave
from networktime.runs import answers

RESISTOR = [1, 8, 1, 0, 1, 0, 0, 0, 1, 1, 0]


class Form(unittest.TestCase):
    def test_one_call(self):
        self.assertEqual(answers(RESISTOR), [1, 0])
        self.assertEqual(answers([2, 0, 1, 1, 0]), [1, -8])
        self.assertEqual(answers([3, 5]), [1, -8])

    def test_several_calls(self):
        self.assertEqual(answers(RESISTOR + [2, 0, 1, 1, 0, 3, 5]), [1, 0, 1, 0, 2, 0, 5])
        self.assertEqual(answers([3, 1] + RESISTOR + [3, 1, 2, 2, 1, 1, 0, 2, 0, 1, 1, 0, 3, 101, 3, 0]),
                         [1, -8, 1, 0, 1, -8, 1, -1, 1, 0, 1, -1, 2, 0, 0])

    def test_refusals_with_numbers_behind(self):
        self.assertEqual(answers([1, 8, 1, 0, 1, 0, 0, 0, 0, 1, 0]), [3, -2, 0, 2])
        self.assertEqual(answers([1, 8, 1, 0, 2, 0, 0, 0, 1, 1, 0]), [3, -2, 0, 1])
        self.assertEqual(answers([1, 8, 1, 8, 1, 0, 0, 0, 1, 1, 0]), [3, -2, 0, 3])
        self.assertEqual(answers([1, 8, 1, 4, 1, 0, 0, 0, 1, 1, 0]), [2, -3, 0])
        self.assertEqual(answers([1, 8, 1, 0, 1, 0, 0, 0, 1, 1, 2, 7, 7]), [2, -3, 1])

    def test_empty_rows(self):
        self.assertEqual(answers([1, 0, 0, 1, 1, 1, 0]), [1, -1, 1, 0])
        self.assertEqual(answers([1, 0, 0] + [1, 1, 1, 0] + [2, 0, 1, 1, 0]), [1, -1, 1, 0, 1, -4])

    def test_numbers_in_rows_are_not_calls(self):
        self.assertEqual(answers([1, 5, 3, 3, 3, 3, 3, 3, 3, 3, 3, 3, 9]), [1, -1, 1, -8])

    def test_the_longest_rows(self):
        row = [1, 120] + [4294967295, -4294967295] * 60 + [300] + [-4294967295] * 300
        self.assertEqual(answers(row * 50), [1, -1] * 50)

    def test_a_hundred_calls(self):
        self.assertEqual(answers(RESISTOR + [2, 1, 1, 7, 64] + [3, 100] * 98), [1, 0, 1, 0] + [2, 0, 100] * 98)

    def test_kinds_of_numbers(self):
        told = answers(RESISTOR + [2, 0, 1, 1, 0, 3, 1])
        self.assertEqual([type(number) for number in told], [int] * len(told))
        self.assertIs(type(told), list)


class Apart(unittest.TestCase):
    CALLS = [number for call in (
        step(1),
        begin(net(3, V(1, 0), R(1, 2, 2), C(2, 0, 1), D(2, 3, 1), R(3, 0, 1)), wave((0, 0), (1, 9), (3, -9), period=4)),
        start(1, 1, 3, 9), step(50), step(7),
        begin(net(2, L(1, 0, 1), L(2, 0, 1), M(0, 1, 1), I(1, 0), T(1, 0, 2, 0, 1)), flat(1)), start(), step(3),
        begin(net(1, V(1, 0), D(1, 0, 5)), wave((0, 0), (7, 7))), start(), step(100), step(1), begin([9]), step(1),
    ) for number in call]

    def test_the_list_is_as_it_was(self):
        calls = list(self.CALLS)
        answers(calls)
        self.assertEqual(calls, self.CALLS)

    def test_a_second_time_answers_as_the_first(self):
        first = answers(list(self.CALLS))
        self.assertEqual(answers([3, 1]), [1, -8])
        self.assertEqual(answers([2, 0, 1, 1, 1]), [1, -8])
        self.assertEqual(answers(list(self.CALLS)), first)

    def test_what_is_given_back_is_not_kept(self):
        first = answers(list(self.CALLS))
        again = list(first)
        first.clear()
        self.assertEqual(answers(list(self.CALLS)), again)

    def test_it_prints_nothing(self):
        out = io.StringIO()
        with contextlib.redirect_stdout(out), contextlib.redirect_stderr(out):
            answers(list(self.CALLS))
        self.assertEqual(out.getvalue(), "")


if __name__ == "__main__":
    unittest.main()
