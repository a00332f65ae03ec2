"""start: its refusals at their edges, and the operating point."""

import unittest
from fractions import Fraction

from helper import C, D, E, F, G, H, I, L, M, O, R, S, T, V
from helper import answer_last, ask, begin, flat, net, start, step, steps_with, wave
from networktime.simulator import Simulator

MOST = 1000000
HUGE = 4294967295
SIMPLE = begin(net(1, R(1, 0, 1)))


class Refusals(unittest.TestCase):
    def test_no_network(self):
        self.assertEqual(ask(start()), [[-8]])
        self.assertEqual(ask(start(5, 0, 0, 99)), [[-8]])

    def test_rule(self):
        for rule, answer in ((0, 0), (1, 0), (2, -1), (HUGE, -1)):
            self.assertEqual(answer_last(SIMPLE, start(rule=rule)), [answer], rule)

    def test_bits(self):
        for bits, answer in ((0, 0), (64, 0), (65, -1), (HUGE, -1)):
            self.assertEqual(answer_last(SIMPLE, start(bits=bits)), [answer], bits)

    def test_step_width(self):
        for number, answer in ((-HUGE, -1), (-1, -1), (0, -1), (1, 0), (MOST, 0), (MOST + 1, -1), (HUGE, -1)):
            self.assertEqual(answer_last(SIMPLE, start(hn=number)), [answer], number)
            self.assertEqual(answer_last(SIMPLE, start(hd=number)), [answer], number)

    def test_bad_numbers_before_no_operating_point(self):
        for wrong in (start(rule=2), start(bits=65), start(hn=0), start(hd=0)):
            self.assertEqual(answer_last(begin([1]), wrong), [-1])
        self.assertEqual(answer_last(begin([1]), start()), [-4])

    def test_a_refused_one_leaves_the_run(self):
        three = begin(net(1, V(1, 0), D(1, 0, 5)), wave((0, 0), (3, 0), (4, 6)))
        for wrong in (start(rule=2), start(bits=65), start(hn=0), start(hd=0)):
            self.assertEqual(ask(three, start(), step(2), wrong, step(5))[3:], [[-1], [0, 1]])
            self.assertEqual(ask(three, wrong, step(5))[1:], [[-1], [-8]])

    def test_a_run_that_was_is_gone(self):
        three = begin(net(1, V(1, 0), D(1, 0, 5)), wave((0, 0), (3, 0), (4, 6)))
        told = ask(three, start(), step(2), start(), step(9), start(1, 1, 2, 0), step(9), start(0, 7, 2), step(9))
        self.assertEqual(told, [[0], [0], [0, 2], [0], [0, 3], [0], [0, 7], [0], [0, 1]])


class NoOperatingPoint(unittest.TestCase):
    def assert_none(self, network, waves=()):
        self.assertEqual(ask(begin(network, waves), start()), [[0], [-4]])
        self.assertEqual(ask(begin(network, waves), start(), step(1))[2], [-8])

    def test_laws_not_regular(self):
        self.assert_none([1])
        self.assert_none(net(2, R(1, 0, 1)))
        self.assert_none(net(1, R(1, 1, 1)))
        self.assert_none(net(1, C(1, 0, 1)))
        self.assert_none(net(1, S(1, 0, 0)))
        self.assert_none(net(1, V(1, 0), V(1, 0)), flat(1) + flat(1))
        self.assert_none(net(1, V(1, 0), L(1, 0, 1)), flat(0))
        self.assert_none(net(1, L(1, 0, 1), L(1, 0, 1)))
        self.assert_none(net(1, I(1, 0)), flat(0))
        self.assert_none(net(1, I(1, 0), C(1, 0, 1)), flat(1))
        self.assert_none(net(1, R(1, 0, 1), G(1, 0, 1, 0, -1)))
        self.assert_none(net(1, R(1, 0, 1), S(0, 0, 1)))

    def test_conditions_do_not_hold(self):
        self.assert_none(net(1, V(1, 0), D(1, 0, 1)), flat(2))
        self.assert_none(net(1, V(1, 0), D(1, 0, 1)), flat("1000000/999999"))
        self.assertEqual(answer_last(begin(net(1, V(1, 0), D(1, 0, 1)), flat(1)), start()), [0])

    def test_the_value_at_time_zero_counts(self):
        network = net(1, V(1, 0), D(1, 0, 1))
        self.assert_none(network, wave((0, 2), (1, 0)))
        self.assertEqual(answer_last(begin(network, wave((0, 0), (1, 2))), start()), [0])
        self.assert_none(network, wave((0, 2), (1, 0), period=2))


class OperatingPoint(unittest.TestCase):
    """Each network has only one operating point: a reference of another value has none."""

    def assert_rests(self, nodes, parts, waves, watch, value):
        value = Fraction(value)
        little = Fraction(1, 1000)
        self.assertEqual(steps_with(nodes, parts, waves, watch, [value], n=0), 0)
        self.assertEqual(steps_with(nodes, parts, waves, watch, [value + little], n=0), None)
        self.assertEqual(steps_with(nodes, parts, waves, watch, [value - little], n=0), None)

    def test_resistors_and_sources(self):
        divider = [V(1, 0), R(1, 2, 2), R(2, 0, "1/2")]
        self.assert_rests(2, divider, flat(5), 2, 1)
        self.assert_rests(2, divider, flat(5), ("i", 1), 2)
        self.assert_rests(2, divider, flat(5), ("i", 0), -2)
        self.assert_rests(1, [I(0, 1), R(1, 0, 3)], flat(2), 1, 6)
        self.assert_rests(1, [I(1, 0), R(1, 0, 3)], flat(2), 1, -6)
        self.assert_rests(1, [I(1, 0), R(1, 0, 3)], flat(2), ("i", 0), 2)

    def test_capacitor_takes_no_current_and_coil_no_voltage(self):
        self.assert_rests(2, [V(1, 0), R(1, 2, 1), C(2, 0, 1)], flat(4), 2, 4)
        self.assert_rests(2, [V(1, 0), R(1, 2, 2), L(2, 0, 1)], flat(4), 2, 0)
        self.assert_rests(2, [V(1, 0), R(1, 2, 2), L(2, 0, 1)], flat(4), ("i", 2), 2)
        pair = [V(1, 0), R(1, 2, 2), L(2, 0, 1), L(3, 0, 4), M(2, 3, 2)]
        self.assert_rests(3, pair, flat(4), 3, 0)

    def test_controlled_sources(self):
        self.assert_rests(2, [V(1, 0), E(2, 0, 0, 1, 3), R(2, 0, 1)], flat(2), 2, -6)
        self.assert_rests(2, [V(1, 0), G(2, 0, 1, 0, 3), R(2, 0, 5)], flat(2), 2, -30)
        self.assert_rests(2, [V(1, 0), R(1, 0, 4), H(2, 0, 1, 6), R(2, 0, 1)], flat(2), 2, 3)
        self.assert_rests(2, [V(1, 0), R(1, 0, 4), F(0, 2, 1, 6), R(2, 0, 1)], flat(2), 2, 3)
        self.assert_rests(2, [V(1, 0), R(1, 0, 4), F(0, 2, 0, 6), R(2, 0, 1)], flat(2), 2, -3)

    def test_transformer(self):
        # v = 3 w, j = -3 i: what hangs behind it is seen 9 times as great.
        parts = [V(1, 0), R(1, 2, 2), T(2, 0, 3, 0, 3), R(3, 0, 2)]
        self.assert_rests(3, parts, flat(20), ("i", 2), 1)
        self.assert_rests(3, parts, flat(20), 2, 18)
        self.assert_rests(3, parts, flat(20), 3, 6)
        self.assert_rests(3, parts, flat(20), ("i", 3), 3)

    def test_amplifier(self):
        self.assert_rests(3, [V(1, 0), R(1, 2, 2), R(2, 3, 6), O(3, 0, 2, 0)], flat(5), 3, -15)
        self.assert_rests(3, [V(1, 0), R(1, 2, 2), R(2, 3, 6), O(3, 0, 2, 0)], flat(5), ("i", 3), "5/2")
        self.assert_rests(2, [V(1, 0), O(2, 0, 1, 2), R(2, 0, 1)], flat(5), 2, 5)

    def test_switch(self):
        self.assert_rests(2, [V(1, 0), R(1, 2, 1), S(2, 0, 1)], flat(5), 2, 0)
        self.assert_rests(2, [V(1, 0), R(1, 2, 1), S(2, 0, 1)], flat(5), ("i", 2), 5)
        self.assert_rests(2, [V(1, 0), R(1, 2, 1), S(2, 0, 0)], flat(5), 2, 5)

    def test_diode_off_and_on(self):
        parts = [V(1, 0), R(1, 2, 2), D(2, 0, "1/2")]
        for volts, value, current in ((-3, -3, 0), (0, 0, 0), ("1/2", "1/2", 0), (3, "1/2", "5/4")):
            self.assert_rests(2, parts, flat(volts), 2, value)
            self.assert_rests(2, parts, flat(volts), ("i", 2), current)

    def test_diode_beside_a_resistor(self):
        parts = [I(0, 1), R(1, 0, 10), D(1, 0, 2)]
        self.assert_rests(1, parts, flat(1), 1, 2)
        self.assert_rests(1, parts, flat("1/10"), 1, 1)


class MixedDiodes(unittest.TestCase):
    def states(self, parts, waves):
        simulator = Simulator()
        self.assertEqual(simulator.begin(net(3, *parts), waves), [0])
        self.assertEqual(simulator.start(0, 1, 1, 8), [0])
        return simulator.run.moment.states

    def test_each_row_of_three(self):
        for states in [(p, q, r) for p in (0, 1) for q in (0, 1) for r in (0, 1)]:
            parts, waves = [], []
            for k, state in enumerate(states):
                parts += [I(0, k + 1), R(k + 1, 0, 1), D(k + 1, 0, 1)]
                waves += flat(2 if state else "1/2")
            self.assertEqual(self.states(parts, waves), states)

    def test_off_before_on_where_both_hold(self):
        self.assertEqual(self.states([I(0, 1), R(1, 0, 1), D(1, 0, 1), R(2, 0, 1), R(3, 0, 1)], flat(1)), (0,))

    def test_first_diode_counts_most(self):
        # Each of two equal diodes could carry the current; the row off, on comes before on, off.
        parts = [I(0, 1), R(1, 0, 1), D(1, 0, 1), D(1, 0, 1), R(2, 0, 1), R(3, 0, 1)]
        self.assertEqual(self.states(parts, flat(3)), (0, 1))

    def test_a_row_that_is_not_regular_is_passed_over(self):
        # With both on the same voltage is told twice; with the greater first, only the smaller can be on.
        parts = [I(0, 1), R(1, 0, 1), D(1, 0, 2), D(1, 0, 1), D(1, 0, 3), R(2, 0, 1), R(3, 0, 1)]
        self.assertEqual(self.states(parts, flat(9)), (0, 1, 0))


if __name__ == "__main__":
    unittest.main()
