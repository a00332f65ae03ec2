"""is_on: its refusals, and the diodes' states before the first step and as rows change."""

import unittest

from helper import C, D, E, F, G, H, I, L, M, O, R, S, T, V
from helper import ask, begin, flat, is_on, net, now, sampled, start, step, told, wave

HUGE = 4294967295
RECTIFIER = [V(1, 0), D(1, 2), C(2, 0, 1), R(2, 0, 1)]
TWO_WAYS = [I(0, 1), R(1, 0, 1), D(1, 0, 1), D(0, 1, 2)]


def rows_of(nodes, parts, waves, diodes, steps):
    """The row of states at the operating point and after each of so many steps."""
    looks = [is_on(k) for k in diodes]
    calls = list(looks)
    for k in range(steps):
        calls += [step(1)] + looks
    answered = ask(begin(net(nodes, *parts), waves), start(), *calls)[2:]
    states = [answer[1] for answer in answered[:len(diodes)]]
    rows = [tuple(states)]
    for k in range(steps):
        at = len(diodes) + k * (len(diodes) + 1)
        assert answered[at] == [0, 1], answered
        rows.append(tuple([answer[1] for answer in answered[at + 1:at + 1 + len(diodes)]]))
    assert all([answer[0] == 0 and len(answer) == 2 for answer in answered])
    return rows


class Refusals(unittest.TestCase):
    def test_no_network(self):
        self.assertEqual(ask(is_on(0), is_on(HUGE)), [[-8]] * 2)
        self.assertEqual(ask(begin([0]), is_on(0)), [[-1], [-8]])

    def test_not_started(self):
        network = begin(net(2, *RECTIFIER), flat(1))
        self.assertEqual(ask(network, is_on(0), is_on(1), is_on(9)), [[0]] + [[-8]] * 3)
        self.assertEqual(ask(network, start(rule=2), is_on(1)), [[0], [-1], [-8]])

    def test_after_a_new_begin(self):
        network = begin(net(2, *RECTIFIER), flat(1))
        self.assertEqual(ask(network, start(), step(1), is_on(1), network, is_on(1), is_on(0), is_on(9))[3:],
                         [[0, 1], [0], [-8], [-8], [-8]])

    def test_no_diode(self):
        one = [V(1, 0), R(1, 2, 1), C(2, 0, 1), L(2, 3, 1), L(3, 0, 1), M(3, 4, 1), I(1, 0), S(1, 0, 0), R(3, 0, 1), D(3, 0, 9)]
        answered = ask(begin(net(3, *one), flat(1) + flat(1)), start(), *[is_on(k) for k in range(11)])[1:]
        self.assertEqual(answered, [[0]] + [[-3]] * 9 + [[0, 0], [-3]])
        other = [V(1, 0), E(2, 0, 1, 0, 1), G(2, 0, 1, 0, 1), H(3, 0, 0, 1), F(3, 0, 0, 1), T(1, 0, 4, 0, 1), R(4, 0, 1),
                 O(5, 0, 5, 0), D(0, 1)]
        answered = ask(begin(net(5, *other), flat(1)), start(), *[is_on(k) for k in range(10)])[1:]
        self.assertEqual(answered, [[0]] + [[-3]] * 8 + [[0, 0], [-3]])

    def test_behind_the_last(self):
        for k in (4, 5, 10, 63, HUGE):
            self.assertEqual(ask(begin(net(2, *RECTIFIER), flat(1)), start(), is_on(k), step(1), is_on(k))[2:],
                             [[-3], [0, 1], [-3]])

    def test_a_refused_one_changes_nothing(self):
        answered = ask(begin(net(2, *RECTIFIER), sampled([0, 4])), start(), is_on(0), step(1), is_on(9), is_on(1), now(0, 2))
        self.assertEqual(answered[2:], [[-3], [0, 1], [-3], [0, 1], told(4)])


class States(unittest.TestCase):
    def test_before_the_first_step(self):
        parts = [V(1, 0), R(1, 2, 2), D(2, 0, "1/2")]
        for volts, state in ((-3, 0), (0, 0), ("1/2", 0), ("500001/1000000", 1), (3, 1)):
            self.assertEqual(rows_of(2, parts, flat(volts), (2,), 0), [(state,)])

    def test_each_row_of_three(self):
        for states in [(p, q, r) for p in (0, 1) for q in (0, 1) for r in (0, 1)]:
            parts, waves = [], []
            for k, state in enumerate(states):
                parts += [I(0, k + 1), R(k + 1, 0, 1), D(k + 1, 0, 1)]
                waves += flat(2 if state else "1/2")
            self.assertEqual(rows_of(3, parts, waves, (2, 5, 8), 2), [states] * 3)

    def test_a_row_that_changes_in_a_step(self):
        self.assertEqual(rows_of(2, RECTIFIER, sampled([0, 4, 2, -8, 1]), (1,), 4), [(0,), (1,), (1,), (0,), (1,)])

    def test_two_diodes_that_change(self):
        self.assertEqual(rows_of(1, TWO_WAYS, sampled([3, -3, 0, 3]), (2, 3), 3), [(1, 0), (0, 1), (0, 0), (1, 0)])

    def test_the_first_row_where_several_hold(self):
        parts = [I(0, 1), R(1, 0, 1), D(1, 0, 1), D(1, 0, 1)]
        self.assertEqual(rows_of(1, parts, sampled([0, 3, 3, 0]), (2, 3), 3), [(0, 0), (0, 1), (0, 1), (0, 0)])

    def test_on_without_a_current(self):
        # At 1 the current is 0: a diode that was on stays so, one that was off too.
        parts = [I(0, 1), R(1, 0, 1), D(1, 0, 1)]
        self.assertEqual(rows_of(1, parts, sampled([2, 1, 1, 0, 1]), (2,), 4), [(1,), (1,), (1,), (0,), (0,)])

    def test_a_step_that_is_not_made_leaves_them(self):
        parts = [V(1, 0), D(1, 0, 5), V(2, 0), R(2, 3, 1), D(3, 0, 1)]
        waves = wave((0, 0), (2, 0), (3, 6)) + sampled([0, 2, 2, 0])
        answered = ask(begin(net(3, *parts), waves), start(), step(9), is_on(1), is_on(4), step(1), is_on(1), is_on(4))
        self.assertEqual(answered[2:], [[0, 2], [0, 0], [0, 1], [0, 0], [0, 0], [0, 1]])

    def test_a_new_start_begins_with_its_own(self):
        network = begin(net(1, *TWO_WAYS), sampled([0, 3, -3]))
        answered = ask(network, start(), step(2), is_on(3), start(), is_on(3), step(1), is_on(2), is_on(3))
        self.assertEqual(answered[3:], [[0, 1], [0], [0, 0], [0, 1], [0, 1], [0, 0]])


if __name__ == "__main__":
    unittest.main()
