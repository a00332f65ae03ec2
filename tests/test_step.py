"""step: refusals, both rules, rounding, rows of states, waves, and steps that can't be made."""

import unittest
from fractions import Fraction

from helper import C, D, E, F, G, H, I, L, M, O, R, S, T, V
from helper import answer_last, ask, assert_course, begin, flat, net, sampled, start, step, wave
from networktime.simulator import Simulator

HUGE = 4294967295
# A source across a diode: on it is never regular, off it holds while the source isn't above 5.
LIMIT = net(1, V(1, 0), D(1, 0, 5))
# With R and q of 1 a step of 1 comes to v = (V + v0) / 2, by rule 1 to v = (V + i0 + 2 v0) / 3.
CHARGED = [V(1, 0), R(1, 2, 1), C(2, 0, 1)]
# The same for its current i: the coil's i and v change places with C's v and i.
COIL_FED = [V(1, 0), R(1, 2, 1), L(2, 0, 1)]
# A diode before a coil, beside which a negative conductance lies: in a step both off and on hold while V is
# at most twice the coil's kept current i0 (on, i = 2 i0 - V and the coil's is 2 V - i0), and above it neither.
BISTABLE = [V(1, 0), R(1, 2, 1), D(2, 3, 0), L(3, 0, 1), G(3, 0, 3, 0, "-3/2")]
# A rectifier with a capacitor and a resistor behind it.
RECTIFIER = [V(1, 0), D(1, 2), C(2, 0, 1), R(2, 0, 1)]


def fractions(*values):
    return [Fraction(value) for value in values]


def started(nodes, parts, waves, rule=0, hn=1, hd=1, bits=64):
    simulator = Simulator()
    assert simulator.begin(net(nodes, *parts), waves) == [0]
    assert simulator.start(rule, hn, hd, bits) == [0]
    return simulator


def found(simulator):
    """The unknowns of the last step: the nodes' voltages, then the currents."""
    return [Fraction(*x) for x in simulator.run.moment.found]


def kept(simulator, k):
    voltage, current = simulator.run.memory[k]
    return Fraction(*voltage), Fraction(*current)


def whole_state(simulator):
    run = simulator.run
    return run.made, run.moment.states, found(simulator), [pair and (pair[0], pair[1]) for pair in run.memory]


class Refusals(unittest.TestCase):
    def test_no_network(self):
        self.assertEqual(ask(step(0), step(1), step(101)), [[-8]] * 3)

    def test_not_started(self):
        self.assertEqual(ask(begin(net(1, R(1, 0, 1))), step(0), step(1), step(101)), [[0]] + [[-8]] * 3)

    def test_too_many(self):
        told = ask(begin(LIMIT, wave((0, 0), (3, 0), (4, 6))), start(), step(101), step(HUGE), step(100))
        self.assertEqual(told, [[0], [0], [-1], [-1], [0, 3]])

    def test_none_and_a_hundred(self):
        told = ask(begin(net(1, R(1, 0, 1))), start(), step(0), step(100), step(100), step(0))
        self.assertEqual(told[2:], [[0, 0], [0, 100], [0, 100], [0, 0]])


class Backward(unittest.TestCase):
    def test_capacitor(self):
        assert_course(self, 2, CHARGED, wave((0, 0), (1, 8)), 2, fractions(0, 4, 6, 7, "15/2"))
        assert_course(self, 2, CHARGED, wave((0, 0), (1, 8)), ("i", 2), fractions(0, 4, 2, 1, "1/2"))

    def test_another_step_and_other_numbers(self):
        # R q / h = 2: V - v = 2 (v - v0).
        parts = [V(1, 0), R(1, 2, 3), C(2, 0, "1/2")]
        assert_course(self, 2, parts, wave((0, 0), ("3/4", 9)), 2, fractions(0, 3, 5, "19/3"), h="3/4")

    def test_a_step_width_not_in_lowest_terms(self):
        one = started(2, CHARGED, wave((0, 0), (3, 8)), hn=1, hd=2)
        other = started(2, CHARGED, wave((0, 0), (3, 8)), hn=50, hd=100)
        self.assertEqual(one.step(9), other.step(9))
        self.assertEqual(whole_state(one), whole_state(other))

    def test_coil(self):
        assert_course(self, 2, COIL_FED, wave((0, 0), (1, 8)), ("i", 2), fractions(0, 4, 6, 7, "15/2"))
        assert_course(self, 2, COIL_FED, wave((0, 0), (1, 8)), 2, fractions(0, 4, 2, 1, "1/2"))

    def test_coupled_coils_with_a_load(self):
        parts = [V(1, 0), R(1, 2, 1), L(2, 0, 1), L(3, 0, 4), M(2, 3, -2), R(3, 0, 10)]
        first, second = Fraction(0), Fraction(0)
        firsts, seconds = [first], [second]
        for k in range(3):
            # V = i + (i - i0) - 2 (j - j0) and -10 j = 4 (j - j0) - 2 (i - i0), solved for i and j.
            one, two = 12 + first - 2 * second, 4 * second - 2 * first
            first, second = (7 * one + two) / 12, (one + two) / 12
            firsts.append(first)
            seconds.append(second)
            first, second = Fraction(round(first * 4), 4), Fraction(round(second * 4), 4)
        source = wave((0, 0), (1, 12))
        assert_course(self, 3, parts, source, ("i", 2), firsts, bits=2)
        assert_course(self, 3, parts, source, ("i", 3), seconds, bits=2)

    def test_a_mutual_named_either_way_round(self):
        for x, y in ((2, 3), (3, 2)):
            parts = [V(1, 0), R(1, 2, 1), L(2, 0, 1), L(3, 0, 4), M(x, y, 2)]
            assert_course(self, 3, parts, wave((0, 0), (1, 8)), 3, fractions(0, 8, 4, 2))

    def test_three_coils_in_series_each_with_each(self):
        parts = [V(4, 0), R(4, 1, 2), L(1, 2, 1), L(2, 3, 1), L(3, 0, 1), M(2, 3, "1/2"), M(4, 3, "1/2"), M(2, 4, "1/2")]
        simulator = started(4, parts, wave((0, 0), (1, 8)))
        # Together they are 3 + 6 / 2 = 6: 8 = 2 i + 6 (i - i0); each takes a third of the voltage.
        for current, voltage in ((1, 2), (Fraction(7, 4), Fraction(3, 2)), (Fraction(37, 16), Fraction(9, 8))):
            self.assertEqual(simulator.step(1), [0, 1])
            for coil in (2, 3, 4):
                self.assertEqual(kept(simulator, coil), (voltage, current))


class Middle(unittest.TestCase):
    def test_capacitor(self):
        source = wave((0, 0), (1, 9))
        assert_course(self, 2, CHARGED, source, 2, fractions(0, 3, 7, "25/3"), rule=1)
        assert_course(self, 2, CHARGED, source, ("i", 2), fractions(0, 6, 2, "2/3"), rule=1)

    def test_another_step_and_other_numbers(self):
        # 2 R q / h = 4: V - v + 3 i0 = 4 (v - v0).
        parts = [V(1, 0), R(1, 2, 3), C(2, 0, "1/2")]
        assert_course(self, 2, parts, wave((0, 0), ("3/4", 15)), 2, fractions(0, 3, "39/5"), h="3/4", rule=1)

    def test_coil(self):
        source = wave((0, 0), (1, 9))
        assert_course(self, 2, COIL_FED, source, ("i", 2), fractions(0, 3, 7, "25/3"), rule=1)
        assert_course(self, 2, COIL_FED, source, 2, fractions(0, 6, 2, "2/3"), rule=1)

    def test_coupled_coils(self):
        # The second has no current: v + v0 = 2 m (i - i0) of the first.
        parts = [V(1, 0), R(1, 2, 1), L(2, 0, 1), L(3, 0, 4), M(2, 3, 2)]
        assert_course(self, 3, parts, wave((0, 0), (1, 9)), 3, fractions(0, 12, 4, "4/3"), rule=1)

    def test_the_rules_differ(self):
        source = wave((0, 0), (1, 9))
        told = [started(2, CHARGED, source, rule=rule) for rule in (0, 1)]
        for simulator in told:
            simulator.step(1)
        self.assertEqual([kept(simulator, 2) for simulator in told], [(Fraction(9, 2),) * 2, (3, 6)])


class OtherKinds(unittest.TestCase):
    def test_transformer(self):
        # The capacitor's current is 2 i: V = 4 i + 2 w and w = (V + 2 w0) / 4.
        parts = [V(1, 0), R(1, 2, 4), T(2, 0, 3, 0, 2), C(3, 0, 1)]
        assert_course(self, 3, parts, wave((0, 0), (1, 8)), 3, fractions(0, 2, 3, "7/2"))

    def test_amplifier(self):
        parts = [V(1, 0), R(1, 2, 1), C(2, 3, 1), R(2, 3, 1), O(3, 0, 2, 0)]
        assert_course(self, 3, parts, wave((0, 0), (1, 8)), 3, fractions(0, -4, -6, -7))

    def test_controlled_sources(self):
        # Each feeds the resistor with what stands for V.
        fed = [R(1, 2, 1), C(2, 0, 1)]
        values = fractions(0, 4, 6, 7)
        assert_course(self, 3, [V(3, 0), E(1, 0, 0, 3, -2)] + fed, wave((0, 0), (1, 4)), 2, values)
        assert_course(self, 3, [I(3, 0), S(3, 0, 1), H(1, 0, 0, 2)] + fed, wave((0, 0), (1, 4)), 2, values)
        parallel = [R(2, 0, 1), C(2, 0, 1)]
        assert_course(self, 2, [V(1, 0), G(0, 2, 1, 0, 2)] + parallel, wave((0, 0), (1, 4)), 2, values)
        assert_course(self, 2, [I(1, 0), R(1, 0, 1), F(2, 0, 0, -2)] + parallel, wave((0, 0), (1, 4)), 2, values)

    def test_a_follower_of_kept_currents(self):
        assert_course(self, 3, CHARGED + [H(3, 0, 2, 3)], wave((0, 0), (1, 8)), 3, fractions(0, 12, 6, 3))
        assert_course(self, 3, COIL_FED + [H(3, 0, 2, 3)], wave((0, 0), (1, 8)), 3, fractions(0, 12, 18, 21))

    def test_switches(self):
        shorted = [V(1, 0), R(1, 2, 1), C(2, 3, 1), S(3, 0, 1)]
        cut = [V(1, 0), R(1, 2, 1), C(2, 0, 1), S(2, 0, 0)]
        for parts, nodes in ((shorted, 3), (cut, 2)):
            assert_course(self, nodes, parts, wave((0, 0), (1, 8)), 2, fractions(0, 4, 6, 7))


class Rounding(unittest.TestCase):
    """A value that is kept rounded shows in the next step's, which is watched unrounded."""

    def test_of_two_the_even_one(self):
        for volts, values in ((1, (0, "1/2", "1/2", "1/2")), (3, (0, "3/2", "5/2", "5/2")), (5, (0, "5/2", "7/2", "9/2")),
                              (-1, (0, "-1/2", "-1/2")), (-3, (0, "-3/2", "-5/2", "-5/2"))):
            source = wave((0, 0), (1, volts))
            assert_course(self, 2, CHARGED, source, 2, fractions(*values), bits=0)
            assert_course(self, 2, COIL_FED, source, ("i", 2), fractions(*values), bits=0)

    def test_of_two_halves_the_even_one(self):
        assert_course(self, 2, CHARGED, wave((0, 0), (1, 1)), 2, fractions(0, "1/2", "3/4", 1, 1), bits=1)
        assert_course(self, 2, CHARGED, wave((0, 0), (1, "1/2")), 2, fractions(0, "1/4", "1/4"), bits=1)

    def test_to_the_nearest(self):
        parts = [V(1, 0), R(1, 2, 1), C(2, 0, 2)]  # v = (V + 2 v0) / 3
        for volts, values in ((1, (0, "1/3", "1/3")), (2, (0, "2/3", "4/3", "4/3")),
                              (-1, (0, "-1/3", "-1/3")), (-2, (0, "-2/3", "-4/3", "-4/3"))):
            assert_course(self, 2, parts, wave((0, 0), (1, volts)), 2, fractions(*values), bits=0)
        assert_course(self, 2, parts, wave((0, 0), (1, 1)), 2, fractions(0, "1/3", "1/2", "2/3", "5/6"), bits=2)

    def test_at_the_operating_point(self):
        for parts, watch in ((CHARGED, 2), (COIL_FED, ("i", 2))):
            assert_course(self, 2, parts, flat("1/2"), watch, fractions("1/2", "1/4", "1/4"), bits=0)
            assert_course(self, 2, parts, flat("3/2"), watch, fractions("3/2", "7/4", "7/4"), bits=0)
            assert_course(self, 2, parts, flat("1/2"), watch, fractions("1/2", "1/2", "1/2"), bits=1)

    def test_of_the_other_value(self):
        # By rule 1 both are used: 8/3 is kept as 3 beside 4/3 as 1.
        for parts, watch in ((CHARGED, 2), (COIL_FED, ("i", 2))):
            assert_course(self, 2, parts, wave((0, 0), (1, 4)), watch, fractions(0, "4/3", 3, "11/3"), rule=1, bits=0)

    def test_the_finest(self):
        simulator = started(2, [V(1, 0), R(1, 2, 1), C(2, 0, 2)], wave((0, 0), (1, 1)))
        fine = 2 ** 64
        value = Fraction(0)
        for k in range(20):
            simulator.step(1)
            value = (1 + 2 * value) / 3
            current = 1 - value
            value = Fraction(round(value * fine), fine)
            self.assertEqual(kept(simulator, 2), (value, Fraction(round(current * fine), fine)))

    def test_multiples(self):
        for bits in (0, 1, 7, 63, 64):
            simulator = started(3, [V(1, 0), R(1, 2, 3), C(2, 3, 1), L(3, 0, 7)], wave((0, 1), (5, 50)), 1, 1, 3, bits)
            simulator.step(30)
            for k in (2, 3):
                for value in kept(simulator, k):
                    self.assertEqual((value * 2 ** bits).denominator, 1)


class States(unittest.TestCase):
    def test_a_row_that_must_change(self):
        source = sampled([0, 4, 2, -8, 1])
        assert_course(self, 2, RECTIFIER, source, 2, fractions(0, 4, 2, 1, 1))
        assert_course(self, 2, RECTIFIER, source, ("i", 1), fractions(0, 8, 0, 0, 1))
        simulator = started(2, RECTIFIER, source)
        rows = [simulator.run.moment.states]
        for k in range(4):
            self.assertEqual(simulator.step(1), [0, 1])
            rows.append(simulator.run.moment.states)
        self.assertEqual(rows, [(0,), (1,), (1,), (0,), (1,)])

    def test_a_row_that_stays_where_the_first_would_do_too(self):
        assert_course(self, 3, BISTABLE, flat(1), ("i", 2), fractions(1, 1, 1, 1, 1))
        assert_course(self, 3, BISTABLE, sampled([1, "3/2", "3/2"]), ("i", 2), fractions(1, "1/2", "5/2"))

    def test_a_row_that_stays_at_the_edge_of_both(self):
        simulator = started(1, [I(0, 1), R(1, 0, 1), D(1, 0, 1)], sampled([2, 1, 1, 0, 1]))
        rows = []
        for k in range(4):
            self.assertEqual(simulator.step(1), [0, 1])
            rows.append(simulator.run.moment.states)
        self.assertEqual(rows, [(1,), (1,), (0,), (0,)])

    def test_the_first_row_that_holds_if_it_must_change(self):
        # Either of two equal diodes could take the current: off, on comes before on, off.
        simulator = started(1, [I(0, 1), R(1, 0, 1), D(1, 0, 1), D(1, 0, 1)], sampled([0, 3, 3, 0]))
        rows = []
        for k in range(3):
            simulator.step(1)
            rows.append(simulator.run.moment.states)
        self.assertEqual(rows, [(0, 1), (0, 1), (0, 0)])

    def test_from_on_to_another_row(self):
        # Two diodes either way round: the first for rising, the second for falling voltage.
        simulator = started(1, [I(0, 1), R(1, 0, 1), D(1, 0, 1), D(0, 1, 2)], sampled([3, -3, 0, 3]))
        rows = [simulator.run.moment.states]
        for k in range(3):
            simulator.step(1)
            rows.append(simulator.run.moment.states)
        self.assertEqual(rows, [(1, 0), (0, 1), (0, 0), (1, 0)])


class Waves(unittest.TestCase):
    def assert_values(self, source, values, h=1):
        for parts in ([V(1, 0)], [I(0, 1), R(1, 0, 1)]):
            assert_course(self, 1, parts, source, 1, fractions(*values), h=h)

    def test_between_points_and_behind_the_last(self):
        self.assert_values(wave((0, 0), (3, 6)), (0, 2, 4, 6, 6, 6))
        self.assert_values(wave((0, 5), ("3/2", -1), (4, -1), (5, 9)), (5, 1, -1, -1, -1, 9, 9))
        self.assert_values(wave((0, 1), ("1/3", 2), ("2/3", -2)), (1, "3/2", 2, 0, -2, -2), h="1/6")

    def test_one_point(self):
        self.assert_values(flat("-7/3"), ["-7/3"] * 4)
        self.assert_values(wave((0, 3), period="1/7"), [3] * 4)

    def test_period(self):
        self.assert_values(wave((0, 0), (2, 4), period=3), (0, 2, 4, 0, 2, 4, 0))
        self.assert_values(wave((0, 0), (2, 4), period=3), (0, 1, 2, 3, 4, 4, 0, 1), h="1/2")
        self.assert_values(wave((0, 0), ("1/2", "1/2"), period="3/4"), (0, "1/2", "1/4", 0, "1/2", "1/4", 0), h="1/2")

    def test_steps_longer_than_the_period(self):
        self.assert_values(wave((0, 0), (2, 4), period=3), (0, 2, 4, 0, 2, 4), h=10)
        self.assert_values(wave((0, 0), (2, 4), period="5/2"), (0, 0, 0, 0), h=10)

    def test_times_far_off(self):
        simulator = started(1, [V(1, 0)], wave((0, 0), (2, 4), period=3), hn=1000000)
        for k in range(3):
            self.assertEqual(simulator.step(100), [0, 100])
        self.assertEqual(found(simulator)[0], 2 * (300 * 1000000 % 3))
        simulator.step(1)
        self.assertEqual(found(simulator)[0], 2 * (301 * 1000000 % 3))

    def test_each_source_has_its_own(self):
        parts = [I(0, 1), R(1, 0, 1), V(2, 0), R(1, 2, 1)]
        simulator = started(2, parts, wave((0, 0), (2, 4)) + wave((0, 6), (3, 0)))
        for one, other in ((0, 6), (2, 4), (4, 2), (4, 0), (4, 0)):
            self.assertEqual(found(simulator)[:2], [Fraction(one + other, 2), other])
            simulator.step(1)


class NotMade(unittest.TestCase):
    def test_it_comes_to_an_end_before_n(self):
        peak = begin(LIMIT, wave((0, 0), (2, 0), (3, 9), (4, 0)))
        self.assertEqual(ask(peak, start(), step(10), step(1), step(0), step(100))[2:], [[0, 2], [0, 0], [0, 0], [0, 0]])
        self.assertEqual(ask(peak, start(), step(2), step(2))[2:], [[0, 2], [0, 0]])

    def test_a_peak_between_two_steps_is_not_seen(self):
        peak = begin(LIMIT, wave((0, 0), (2, 0), (3, 9), (4, 0)))
        self.assertEqual(answer_last(peak, start(hn=2), step(100)), [0, 100])
        self.assertEqual(answer_last(peak, start(hd=3), step(100)), [0, 7])

    def test_the_edge_of_the_condition(self):
        for level, made in ((5, 100), ("999999/200000", 100), ("1000000/199999", 0)):
            self.assertEqual(answer_last(begin(LIMIT, wave((0, 0), (1, level))), start(), step(100)), [0, made])

    def test_neither_off_nor_on(self):
        told = ask(begin(net(3, *BISTABLE), sampled([1, "3/2", "3/2", "5/2"])), start(), step(9), step(9))
        self.assertEqual(told[2:], [[0, 2], [0, 0]])

    def test_laws_that_are_not_regular_in_a_step(self):
        # 1 - 2 at rest; q / h more in a step by rule 0, twice that by rule 1.
        network = begin(net(1, R(1, 0, 1), G(1, 0, 1, 0, -2), C(1, 0, 1)))
        for rule, hn, hd, made in ((0, 1, 1, 0), (1, 1, 1, 5), (0, 2, 1, 5), (1, 2, 1, 0), (0, 1, 2, 5)):
            self.assertEqual(ask(network, start(rule, hn, hd), step(5)), [[0], [0], [0, made]])

    def test_a_row_that_is_not_regular_gives_way(self):
        # On, what lies beside the coil has no conductance in a step: the diode goes off, and holds so.
        parts = [I(0, 1), D(1, 2), R(1, 0, 1), L(2, 0, 1), G(2, 0, 2, 0, -2)]
        simulator = started(2, parts, flat(1))
        self.assertEqual(simulator.run.moment.states, (1,))
        self.assertEqual(simulator.step(1), [0, 1])
        self.assertEqual(simulator.run.moment.states, (0,))

    def test_it_changes_nothing(self):
        parts = [V(1, 0), D(1, 0, 5), V(2, 0), R(2, 3, 1), C(3, 4, 1), L(4, 0, 1), D(3, 0, 1)]
        for rule in (0, 1):
            simulator = started(4, parts, wave((0, 0), (4, 0), (5, 6)) + wave((0, 0), (9, 9)), rule, bits=9)
            self.assertEqual(simulator.step(4), [0, 4])
            before = whole_state(simulator)
            self.assertEqual(simulator.step(7), [0, 0])
            self.assertEqual(whole_state(simulator), before)
            self.assertEqual(before[0], 4)


class Cuts(unittest.TestCase):
    CUTS = ((12,), (5, 7), (1,) * 12, (0, 3, 0, 9, 0), (11, 1))

    def test_the_same_however_they_are_cut(self):
        source = wave((0, 0), (1, 9), (3, -9), period=4)
        for nodes, parts in ((2, RECTIFIER), (3, [V(1, 0), R(1, 2, 3), C(2, 3, 2), L(3, 0, "1/5")])):
            for rule in (0, 1):
                states = []
                for cut in self.CUTS:
                    simulator = started(nodes, parts, source, rule, 2, 3, 5)
                    for n in cut:
                        self.assertEqual(simulator.step(n), [0, n])
                    states.append(whole_state(simulator))
                for state in states:
                    self.assertEqual(state, states[0])

    def test_the_same_where_they_end(self):
        peak = begin(LIMIT, wave((0, 0), (8, 4), (9, 9)))
        for cut in self.CUTS:
            told = ask(peak, start(), *[step(n) for n in cut])[2:]
            self.assertEqual(sum([answer[1] for answer in told]), 8)

    def test_refused_calls_between_change_nothing(self):
        plain, other = [started(2, RECTIFIER, wave((0, 0), (1, 9), (3, -9), period=4), bits=5) for k in range(2)]
        plain.step(6)
        for k in range(6):
            self.assertEqual(other.step(101), [-1])
            self.assertEqual(other.begin([0], []), [-1])
            self.assertEqual(other.start(2, 1, 1, 1), [-1])
            other.step(1)
        self.assertEqual(whole_state(plain), whole_state(other))


class Rest(unittest.TestCase):
    """Where waves stand still."""

    NETWORKS = (
        (2, CHARGED, flat(3)),
        (2, COIL_FED, flat(3)),
        (3, BISTABLE, flat(1)),
        (2, RECTIFIER, flat(5)),
        (3, [V(1, 0), R(1, 2, 2), L(2, 0, 1), L(3, 0, 4), M(2, 3, 2), R(3, 0, 1), C(2, 3, 7)], flat("5/2")),
        (4, [I(0, 1), R(1, 0, 8), T(1, 0, 2, 0, 2), R(2, 3, 1), D(3, 4, "1/2"), C(4, 0, 1), R(4, 0, 1)], wave((0, 6), (9, 6))),
    )

    def test_it_stays_at_the_operating_point(self):
        for nodes, parts, waves in self.NETWORKS:
            for rule in (0, 1):
                simulator = started(nodes, parts, waves, rule, 1, 3)
                first = whole_state(simulator)[1:]
                self.assertEqual(simulator.step(50), [0, 50])
                self.assertEqual(whole_state(simulator)[1:], first)

    def test_but_for_rounding(self):
        for parts in (CHARGED, COIL_FED):
            for rule in (0, 1):
                simulator = started(2, parts, flat("1/3"), rule, 1, 1, 10)
                first = found(simulator)
                simulator.step(50)
                for one, other in zip(first, found(simulator)):
                    self.assertLess(abs(one - other), Fraction(1, 2 ** 10))


if __name__ == "__main__":
    unittest.main()
