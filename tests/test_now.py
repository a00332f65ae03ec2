"""now: its refusals, every quantity of every kind, the time, and fractions as they are told."""

import unittest
from fractions import Fraction

from helper import C, D, E, F, G, H, I, L, M, O, R, S, T, V
from helper import ask, begin, flat, kept, net, now, start, step, told, wave

HUGE = 4294967295
CHARGED = [V(1, 0), R(1, 2, 1), C(2, 0, 1)]
COIL_FED = [V(1, 0), R(1, 2, 1), L(2, 0, 1)]
RISING = wave((0, 0), (1, 8))


def looked(nodes, parts, waves, *calls):
    """The answers to the calls behind begin and start, which must both be taken."""
    answered = ask(begin(net(nodes, *parts), waves), start(), *calls)
    assert answered[:2] == [[0], [0]], answered
    return answered[2:]


class NotStarted(unittest.TestCase):
    CALLS = [now(what, k) for what in (0, 1, 2, 3, 4, 5, HUGE) for k in (0, 1, HUGE)]

    def test_no_network(self):
        self.assertEqual(ask(*self.CALLS), [[-8]] * len(self.CALLS))

    def test_a_network_that_is_refused_is_none(self):
        self.assertEqual(ask(begin([0]), now(4), begin(net(1, R(2, 0, 1))), now(4), begin(net(1, V(1, 0))), now(4)),
                         [[-1], [-8], [-2, 0, 1], [-8], [-3, 0], [-8]])

    def test_a_network_that_is_not_started(self):
        answered = ask(begin(net(2, *CHARGED), flat(1)), *self.CALLS)
        self.assertEqual(answered[1:], [[-8]] * len(self.CALLS))

    def test_a_start_that_is_refused(self):
        self.assertEqual(ask(begin([1]), start(), now(4), start(rule=2), now(4))[1:], [[-4], [-8], [-1], [-8]])

    def test_after_a_new_begin(self):
        network = begin(net(2, *CHARGED), flat(1))
        answered = ask(network, start(), step(1), now(4), network, *self.CALLS)
        self.assertEqual(answered[3:], [[0, 1, 1], [0]] + [[-8]] * len(self.CALLS))

    def test_after_a_new_begin_that_is_refused(self):
        network = begin(net(2, *CHARGED), flat(3))
        self.assertEqual(ask(network, start(), begin([9]), now(0, 2), now(4))[2:], [[-1], [0, 3, 1], [0, 0, 1]])


class Nodes(unittest.TestCase):
    def test_each_node_and_the_ground(self):
        parts = [V(1, 0), R(1, 2, 1), R(2, 3, 1), R(3, 0, 2)]
        answered = looked(3, parts, flat(4), *[now(0, k) for k in (0, 1, 2, 3, 4, 5, HUGE)])
        self.assertEqual(answered, [told(0), told(4), told(3), told(2), [-3], [-3], [-3]])

    def test_as_many_as_there_may_be(self):
        for nodes in (1, 8):
            parts = [I(0, nodes)] + [R(k, k - 1, 1) for k in range(1, nodes + 1)]
            answered = looked(nodes, parts, flat(1), *[now(0, k) for k in range(nodes + 2)])
            self.assertEqual(answered, [told(k) for k in range(nodes + 1)] + [[-3]])

    def test_a_node_is_no_element(self):
        # More nodes than elements, then more elements than nodes.
        answered = looked(4, [E(1, 2, 3, 4, 1), S(1, 0, 1), T(2, 0, 3, 4, 1), R(4, 0, 1)], [], now(0, 4), now(1, 4))
        self.assertEqual(answered, [told(0), [-3]])
        answered = looked(1, [I(0, 1), R(1, 0, 2), R(1, 0, 2)], flat(3), now(0, 2), now(1, 2))
        self.assertEqual(answered, [[-3], told("3/2")])


class Kinds(unittest.TestCase):
    def assert_part(self, nodes, parts, waves, k, current, voltage, *before):
        current, voltage = Fraction(current), Fraction(voltage)
        answered = looked(nodes, parts, waves, *before, now(1, k), now(2, k), now(3, k))[-3:]
        self.assertEqual(answered, [told(current), told(voltage), told(current * voltage)])

    def test_resistor_and_voltage_source(self):
        divider = [V(1, 0), R(1, 2, 2), R(2, 0, "1/2")]
        self.assert_part(2, divider, flat(5), 0, -2, 5)
        self.assert_part(2, divider, flat(5), 1, 2, 4)
        self.assert_part(2, divider, flat(5), 2, 2, 1)
        self.assert_part(1, [V(1, 0), R(0, 1, "1000000/7")], flat(3), 1, "-21/1000000", -3)
        self.assert_part(1, [V(0, 1), R(1, 0, 2)], flat(3), 0, "-3/2", 3)

    def test_current_source(self):
        parts = [I(1, 0), R(1, 0, 3)]
        self.assert_part(1, parts, flat(2), 0, 2, -6)
        self.assert_part(1, parts, flat(2), 1, -2, -6)

    def test_capacitor(self):
        self.assert_part(2, CHARGED, flat(4), 2, 0, 4)
        self.assert_part(2, CHARGED, RISING, 2, 0, 0)
        self.assert_part(2, CHARGED, RISING, 2, 4, 4, step(1))
        self.assert_part(2, CHARGED, RISING, 2, 2, 6, step(2))
        self.assert_part(2, [V(1, 0), R(1, 2, 1), C(0, 2, 1)], RISING, 2, -2, -6, step(2))

    def test_coil(self):
        self.assert_part(2, COIL_FED, flat(4), 2, 4, 0)
        self.assert_part(2, COIL_FED, RISING, 2, 4, 4, step(1))
        self.assert_part(2, COIL_FED, RISING, 2, 6, 2, step(2))
        self.assert_part(2, [V(1, 0), R(1, 2, 1), L(0, 2, 1)], RISING, 2, -6, -2, step(2))

    def test_mutual_has_none(self):
        parts = COIL_FED + [L(3, 0, 4), M(2, 3, 2), R(3, 0, 1)]
        for before in ([], [step(1)]):
            answered = looked(3, parts, RISING, *before, now(1, 4), now(2, 4), now(3, 4))
            self.assertEqual(answered[len(before):], [[-3]] * 3)
        # What stands behind it has its own.
        answered = looked(3, parts, RISING, step(1), now(0, 3), now(1, 5), now(2, 5), now(3, 5))
        volts = Fraction(answered[1][1], answered[1][2])
        self.assertNotEqual(volts, 0)
        self.assertEqual(answered[2:], [told(volts), told(volts), told(volts * volts)])

    def test_controlled_sources(self):
        self.assert_part(2, [V(1, 0), E(2, 0, 0, 1, 3), R(2, 0, 1)], flat(2), 1, 6, -6)
        self.assert_part(2, [V(1, 0), G(2, 0, 1, 0, 3), R(2, 0, 5)], flat(2), 1, 6, -30)
        self.assert_part(2, [V(1, 0), R(1, 0, 4), H(2, 0, 1, 6), R(2, 0, 1)], flat(2), 2, -3, 3)
        self.assert_part(2, [V(1, 0), R(1, 0, 4), F(0, 2, 1, 6), R(2, 0, 1)], flat(2), 2, 3, -3)

    def test_transformer_tells_the_first_pair(self):
        parts = [V(1, 0), R(1, 2, 2), T(2, 0, 3, 0, 3), R(3, 0, 2), R(3, 0, 2)]
        self.assert_part(3, parts[:4], flat(20), 2, 1, 18)
        self.assert_part(3, parts[:4], flat(20), 3, 3, 6)
        self.assert_part(3, parts, flat(11), 4, "3/2", 3)
        # By the other pair it would be -3 and 6.
        self.assert_part(3, [V(1, 0), R(1, 2, 2), T(3, 0, 2, 0, "1/3"), R(3, 0, 2)], flat(20), 2, -3, 6)

    def test_amplifier(self):
        self.assert_part(3, [V(1, 0), R(1, 2, 2), R(2, 3, 6), O(3, 0, 2, 0)], flat(5), 3, "5/2", -15)

    def test_switch(self):
        self.assert_part(2, [V(1, 0), R(1, 2, 1), S(2, 0, 1)], flat(5), 2, 5, 0)
        self.assert_part(2, [V(1, 0), R(1, 2, 1), S(2, 0, 0)], flat(5), 2, 0, 5)

    def test_diode(self):
        parts = [V(1, 0), R(1, 2, 2), D(2, 0, "1/2")]
        self.assert_part(2, parts, flat(3), 2, "5/4", "1/2")
        self.assert_part(2, parts, flat(-3), 2, 0, -3)

    def test_both_ends_at_one_node(self):
        self.assert_part(1, [I(0, 1), R(1, 0, 1), I(1, 1)], flat(3) + flat(7), 2, 7, 0)

    def test_behind_the_last(self):
        for what in (1, 2, 3):
            self.assertEqual(looked(2, CHARGED, flat(1), now(what, 3), now(what, 63), now(what, HUGE)), [[-3]] * 3)
            self.assertNotEqual(looked(2, CHARGED, flat(1), now(what, 2)), [[-3]])

    def test_ten_of_them(self):
        parts = [V(1, 0)] + [R(1, 0, k) for k in range(1, 10)]
        answered = looked(1, parts, flat(1), *[now(1, k) for k in range(11)])
        self.assertEqual(answered[1:], [told(Fraction(1, k)) for k in range(1, 10)] + [[-3]])


class Others(unittest.TestCase):
    def test_none_of_another_number(self):
        for what in (5, 6, 63, HUGE):
            self.assertEqual(looked(2, CHARGED, flat(1), now(what, 0), step(1), now(what, 1)), [[-3], [0, 1], [-3]])

    def test_a_refused_one_changes_nothing(self):
        plain = looked(2, CHARGED, RISING, step(2), now(0, 2), now(4))
        other = looked(2, CHARGED, RISING, step(1), now(5), now(1, 9), step(1), now(0, 3), now(0, 2), now(4))
        self.assertEqual(other[-2:], plain[1:])


class Time(unittest.TestCase):
    def assert_times(self, hn, hd, steps, times):
        calls = [call for n in steps for call in (step(n), now(4, n))]
        answered = ask(begin(net(1, R(1, 0, 1))), start(0, hn, hd, 0), now(4), *calls)[2:]
        self.assertEqual(answered[::2], [told(time) for time in times])

    def test_from_nothing_on(self):
        self.assert_times(1, 1, (1, 1, 5, 0, 100), (0, 1, 2, 7, 7, 107))
        self.assert_times(3, 7, (1, 6, 1), (0, "3/7", 3, "24/7"))

    def test_in_lowest_terms(self):
        self.assert_times(50, 100, (1, 1, 1), (0, "1/2", 1, "3/2"))
        self.assert_times(6, 4, (1, 1, 2), (0, "3/2", 3, 6))
        self.assert_times(1, 6, (1, 1, 1, 1, 1, 1), (0, "1/6", "1/3", "1/2", "2/3", "5/6", 1))
        self.assert_times(1, 1000000, (100, 28), (0, "1/10000", "2/15625"))
        self.assert_times(1000000, 1, (100,), (0, 100000000))
        self.assert_times(1000000, 1000000, (3,), (0, 3))
        self.assert_times(999999, 1000000, (100,), (0, "999999/10000"))

    def test_k_is_not_looked_at(self):
        answered = looked(1, [R(1, 0, 1)], [], step(3), *[now(4, k) for k in (0, 1, 2, 63, HUGE)])
        self.assertEqual(answered[1:], [told(3)] * 5)

    def test_not_that_of_a_step_that_is_not_made(self):
        parts = [V(1, 0), D(1, 0, 5)]
        answered = looked(1, parts, wave((0, 0), (3, 0), (4, 6)), step(9), now(4), step(1), now(4))
        self.assertEqual(answered, [[0, 3], told(3), [0, 0], told(3)])

    def test_a_new_start_begins_at_nothing(self):
        answered = looked(1, [R(1, 0, 1)], [], step(3), start(0, 1, 2, 0), now(4), step(1), now(4))
        self.assertEqual(answered[2:], [told(0), [0, 1], told("1/2")])


class AsToldFractions(unittest.TestCase):
    def test_nothing_is_nothing_by_one(self):
        parts = [V(1, 0), R(1, 2, 7), R(2, 0, 3)]
        answered = looked(2, parts, wave((0, 0), (5, 1)), now(0, 0), now(0, 1), now(0, 2), now(1, 1), now(2, 1), now(3, 1))
        self.assertEqual(answered, [[0, 0, 1]] * 6)

    def test_lowest_terms_of_what_is_not_handed_over_so(self):
        network = [2, 4, 1, 0, 0, 0, 0, 9, 0, 1, 2, 0, 0, 40, 20, 0, 2, 0, 0, 0, 500000, 1000000]
        waves = [1, 0, 7, 0, 3, -30, 12]
        answered = ask(begin(network, waves), start(), now(0, 1), now(0, 2), now(1, 1), now(1, 0), now(2, 1), now(3, 1))
        self.assertEqual(answered[2:], [[0, -5, 2], [0, -1, 2], [0, -1, 1], [0, 1, 1], [0, -2, 1], [0, 2, 1]])

    def test_below_nothing(self):
        parts = [V(1, 0), R(1, 2, 2), R(2, 0, 4)]
        answered = looked(2, parts, flat("-3/7"), now(0, 1), now(0, 2), now(1, 1), now(1, 0), now(3, 1), now(3, 0))
        self.assertEqual(answered, [[0, -3, 7], [0, -2, 7], [0, -1, 14], [0, 1, 14], [0, 1, 98], [0, -3, 98]])

    def test_great_numbers(self):
        parts = [V(1, 0), R(1, 0, "1/1000000"), E(2, 0, 1, 0, 1000000), R(2, 0, "1/999999")]
        answered = looked(2, parts, flat(1000000), now(0, 2), now(1, 3), now(3, 3), now(3, 2))
        self.assertEqual(answered, [told(10 ** 12), told(10 ** 12 * 999999), told(10 ** 24 * 999999),
                                    told(-10 ** 24 * 999999)])

    def test_numbers_that_grow_without_end(self):
        # Each step by rule 0 gives v = 3 v0 + 1 from 0: 1 - 5/3 and q / h = 1 come to 1/3.
        parts = [R(1, 0, 1), G(1, 0, 1, 0, "-5/3"), C(1, 0, 1), I(0, 1)]
        answered = looked(1, parts, wave((0, 0), (1, "1/3")), *([step(100)] * 90), now(0, 1), kept(2))[90:]
        volts = (3 ** 9000 - 1) // 2
        self.assertEqual(answered, [[0, volts, 1], [0, volts, 1, (3 ** 8999 - 1) // 2 * 2 + 1, 1]])


class NotRounded(unittest.TestCase):
    def test_at_the_operating_point(self):
        answered = ask(begin(net(2, *CHARGED), flat("10/3")), start(bits=0), now(2, 2), now(3, 2), kept(2))[2:]
        self.assertEqual(answered, [told("10/3"), told(0), told(3, 0)])
        answered = ask(begin(net(2, *COIL_FED), flat("10/3")), start(bits=0), now(1, 2), now(3, 2), kept(2))[2:]
        self.assertEqual(answered, [told("10/3"), told(0), told(0, 3)])

    def test_after_steps(self):
        calls = [call for k in range(3) for call in (step(1), now(0, 2), now(1, 2), now(3, 2), kept(2))]
        answered = ask(begin(net(2, V(1, 0), R(1, 2, 1), C(2, 0, 2)), wave((0, 0), (1, 2))), start(bits=0), *calls)[2:]
        self.assertEqual(answered[1:5], [told("2/3"), told("4/3"), told("8/9"), told(1, 1)])
        self.assertEqual(answered[6:10], [told("4/3"), told("2/3"), told("8/9"), told(1, 1)])
        self.assertEqual(answered[11:], answered[6:10])

    def test_with_no_c_or_l(self):
        answered = ask(begin(net(1, V(1, 0), R(1, 0, 3)), wave((0, 1), (7, 2))), start(bits=0), step(1), now(0, 1), now(3, 1))
        self.assertEqual(answered[3:], [told("8/7"), told(Fraction(64, 147))])


class BeforeTheFirstStep(unittest.TestCase):
    def test_the_operating_point(self):
        parts = [V(1, 0), R(1, 2, 2), L(2, 3, 5), C(3, 0, 7), R(3, 0, 1)]
        calls = [now(0, 2), now(0, 3), now(1, 2), now(2, 2), now(1, 3), now(2, 3), now(3, 4)]
        for before in ([], [step(0)], [step(101)], [step(3), start(1, 1, 9, 3)]):
            answered = looked(3, parts, wave((0, 9), (1, 0)), *before, *calls)[len(before):]
            self.assertEqual(answered, [told(x) for x in (3, 3, 3, 0, 0, 3, 9)])

    def test_waves_at_time_nothing(self):
        source = wave((0, "1/3"), (1, 5), period=2)
        self.assertEqual(looked(1, [V(1, 0)], source, now(0, 1), step(1), now(0, 1), step(1), now(0, 1)),
                         [told("1/3"), [0, 1], told(5), [0, 1], told("1/3")])


if __name__ == "__main__":
    unittest.main()
