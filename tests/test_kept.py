"""kept: its refusals, and what is kept of each C and L, rounded, by both rules."""

import unittest
from fractions import Fraction

from helper import C, D, E, F, G, H, I, L, M, O, R, S, T, V
from helper import ask, begin, flat, kept, net, now, start, step, told, wave

HUGE = 4294967295
CHARGED = [V(1, 0), R(1, 2, 1), C(2, 0, 1)]
COIL_FED = [V(1, 0), R(1, 2, 1), L(2, 0, 1)]


def kept_in(nodes, parts, waves, k, steps, rule=0, hn=1, hd=1, bits=64):
    """What is kept of element k after start and after each of so many steps."""
    calls = [kept(k)] + [call for n in range(steps) for call in (step(1), kept(k))]
    return ask(begin(net(nodes, *parts), waves), start(rule, hn, hd, bits), *calls)[2::2]


class Refusals(unittest.TestCase):
    def test_no_network(self):
        self.assertEqual(ask(kept(0), kept(HUGE)), [[-8]] * 2)
        self.assertEqual(ask(begin([0]), kept(0)), [[-1], [-8]])

    def test_not_started(self):
        network = begin(net(2, *CHARGED), flat(1))
        self.assertEqual(ask(network, kept(2), kept(0), kept(9)), [[0]] + [[-8]] * 3)
        self.assertEqual(ask(network, start(bits=65), kept(2)), [[0], [-1], [-8]])

    def test_after_a_new_begin(self):
        network = begin(net(2, *CHARGED), flat(1))
        self.assertEqual(ask(network, start(), step(1), kept(2), network, kept(2), kept(0), kept(9))[3:],
                         [told(1, 0), [0], [-8], [-8], [-8]])

    def test_no_c_and_no_l(self):
        one = [V(1, 0), R(1, 2, 1), C(2, 0, 1), L(2, 3, 1), L(3, 0, 1), M(3, 4, 1), I(1, 0), S(1, 0, 0), R(3, 0, 1), D(3, 0, 9)]
        answered = ask(begin(net(3, *one), flat(1) + flat(1)), start(), *[kept(k) for k in range(11)])[2:]
        self.assertEqual(answered, [[-3], [-3], told(0, 0), told(0, 1), told(0, 1)] + [[-3]] * 6)
        other = [V(1, 0), E(2, 0, 1, 0, 1), G(2, 0, 1, 0, 1), H(3, 0, 0, 1), F(3, 0, 0, 1), T(1, 0, 4, 0, 1), R(4, 0, 1),
                 O(5, 0, 5, 0), D(0, 1)]
        answered = ask(begin(net(5, *other), flat(1)), start(), *[kept(k) for k in range(10)])[1:]
        self.assertEqual(answered, [[0]] + [[-3]] * 10)

    def test_behind_the_last(self):
        for k in (3, 4, 10, 63, HUGE):
            self.assertEqual(ask(begin(net(2, *CHARGED), flat(1)), start(), kept(k), step(1), kept(k))[2:],
                             [[-3], [0, 1], [-3]])

    def test_a_refused_one_changes_nothing(self):
        network = begin(net(2, *CHARGED), wave((0, 0), (1, 8)))
        answered = ask(network, start(), kept(0), step(1), kept(9), step(1), kept(1), kept(2), now(0, 2))
        self.assertEqual(answered[2:], [[-3], [0, 1], [-3], [0, 1], [-3], told(6, 2), told(6)])


class Courses(unittest.TestCase):
    """The voltage first, then the current."""

    def test_after_start(self):
        self.assertEqual(kept_in(2, CHARGED, flat("-7/2"), 2, 0), [told("-7/2", 0)])
        self.assertEqual(kept_in(2, COIL_FED, flat("-7/2"), 2, 0), [told(0, "-7/2")])

    def test_backward(self):
        values = [told(*pair) for pair in ((0, 0), (4, 4), (6, 2), (7, 1), ("15/2", "1/2"))]
        turned = [told(*pair) for pair in ((0, 0), (4, 4), (2, 6), (1, 7), ("1/2", "15/2"))]
        self.assertEqual(kept_in(2, CHARGED, wave((0, 0), (1, 8)), 2, 4), values)
        self.assertEqual(kept_in(2, COIL_FED, wave((0, 0), (1, 8)), 2, 4), turned)

    def test_middle(self):
        values = [told(*pair) for pair in ((0, 0), (3, 6), (7, 2))]
        turned = [told(*pair) for pair in ((0, 0), (6, 3), (2, 7))]
        self.assertEqual(kept_in(2, CHARGED, wave((0, 0), (1, 9)), 2, 2, rule=1), values)
        self.assertEqual(kept_in(2, COIL_FED, wave((0, 0), (1, 9)), 2, 2, rule=1), turned)

    def test_another_way_round(self):
        parts = [V(1, 0), R(1, 2, 1), C(0, 2, 1)]
        values = [told(*pair) for pair in ((0, 0), (-4, -4), (-6, -2))]
        self.assertEqual(kept_in(2, parts, wave((0, 0), (1, 8)), 2, 2), values)

    def test_other_widths(self):
        # R q / h = 2 by rule 0, 4 by rule 1: V - v = 2 (v - v0), V - v + 3 i0 = 4 (v - v0).
        parts = [V(1, 0), R(1, 2, 3), C(2, 0, "1/2")]
        answered = kept_in(2, parts, wave((0, 0), ("3/4", 9)), 2, 2, 0, 3, 4)
        self.assertEqual(answered, [told(0, 0), told(3, 2), told(5, Fraction(round(Fraction(4, 3) * 2 ** 64), 2 ** 64))])
        answered = kept_in(2, parts, wave((0, 0), ("3/4", 15)), 2, 1, 1, 3, 4)
        self.assertEqual(answered, [told(0, 0), told(3, 4)])

    def test_two_coupled_coils(self):
        # The second has no current: its voltage is m (i - i0) / h of the first, by rule 1 twice that less the one before.
        parts = COIL_FED + [L(3, 0, 4), M(2, 3, 2)]
        self.assertEqual(kept_in(3, parts, wave((0, 0), (1, 8)), 3, 2), [told(0, 0), told(8, 0), told(4, 0)])
        self.assertEqual(kept_in(3, parts, wave((0, 0), (1, 9)), 3, 2, rule=1), [told(0, 0), told(12, 0), told(4, 0)])

    def test_a_step_that_is_not_made_leaves_them(self):
        parts = CHARGED + [D(1, 0, 8)]
        answered = ask(begin(net(2, *parts), wave((0, 0), (1, 8), (2, 8), (3, 9))), start(), step(5), kept(2), step(1), kept(2))
        self.assertEqual(answered[2:], [[0, 2], told(6, 2), [0, 0], told(6, 2)])

    def test_a_new_start_begins_anew(self):
        network = begin(net(2, *CHARGED), wave((0, 0), (1, 9)))
        answered = ask(network, start(), step(2), kept(2), start(1), kept(2), step(1), kept(2))
        self.assertEqual(answered[3:], [told("27/4", "9/4"), [0], told(0, 0), [0, 1], told(3, 6)])


class Rounding(unittest.TestCase):
    def at_start(self, volts, bits):
        """What is kept of a voltage and of a current that come to volts at the operating point."""
        parts = [V(1, 0), R(1, 2, 1), C(1, 0, 1), L(2, 0, 1)]
        answered = ask(begin(net(2, *parts), flat(volts)), start(bits=bits), kept(2), kept(3))[2:]
        self.assertEqual(answered[0][3:], [0, 1])
        self.assertEqual(answered[1][1:3], [0, 1])
        self.assertEqual(answered[0][1:3], answered[1][3:])
        return Fraction(*answered[0][1:3])

    def assert_kept(self, bits, *pairs):
        for volts, value in pairs:
            for sign in (1, -1):
                self.assertEqual(self.at_start(sign * Fraction(volts), bits), sign * Fraction(value), volts)

    def test_to_the_nearest(self):
        self.assert_kept(0, (0, 0), ("1/3", 0), ("2/3", 1), ("499999/1000000", 0), ("500001/1000000", 1), (1, 1),
                         ("149999/100000", 1), ("150001/100000", 2), ("5/3", 2), (1000000, 1000000))

    def test_of_two_the_even_one(self):
        self.assert_kept(0, ("1/2", 0), ("3/2", 2), ("5/2", 2), ("7/2", 4), ("9/2", 4), ("19/2", 10), ("999999/2", 500000))

    def test_multiples_of_parts(self):
        self.assert_kept(1, ("1/4", 0), ("3/4", 1), ("5/4", 1), ("7/4", 2), ("1/2", "1/2"), ("1/3", "1/2"), ("1/5", 0))
        self.assert_kept(3, ("1/16", 0), ("3/16", "1/4"), ("5/16", "1/4"), ("7/16", "1/2"), ("1/3", "3/8"), ("2/3", "5/8"))
        self.assert_kept(10, ("1/3", "341/1024"), ("2/3", "683/1024"), ("1/2048", 0), ("3/2048", "1/512"))

    def test_the_finest(self):
        fine = 2 ** 64
        self.assert_kept(64, ("1/3", Fraction(fine // 3, fine)), ("2/3", Fraction(2 * fine // 3 + 1, fine)),
                         ("1/524288", "1/524288"), ("999999/1000000", Fraction(round(Fraction(999999, 1000000) * fine), fine)))

    def test_in_lowest_terms(self):
        answered = ask(begin(net(2, *CHARGED), flat("3/4")), start(bits=64), kept(2), start(bits=2), kept(2), start(bits=0),
                       kept(2))[2::2]
        self.assertEqual(answered, [[0, 3, 4, 0, 1], [0, 3, 4, 0, 1], [0, 1, 1, 0, 1]])

    def test_after_a_step_by_both_rules(self):
        # By rule 0 v = i = V / 2 at first, by rule 1 v = V / 3 and i = 2 V / 3.
        for volts, pairs in ((1, ((0, 0), (0, 1))), (3, ((2, 2), (1, 2))), (5, ((2, 2), (2, 3))), (-1, ((0, 0), (0, -1))),
                             (-3, ((-2, -2), (-1, -2))), (-5, ((-2, -2), (-2, -3)))):
            for rule in (0, 1):
                source = wave((0, 0), (1, volts))
                voltage, current = pairs[rule]
                self.assertEqual(kept_in(2, CHARGED, source, 2, 1, rule, bits=0)[1], told(voltage, current))
                self.assertEqual(kept_in(2, COIL_FED, source, 2, 1, rule, bits=0)[1], told(current, voltage))

    def test_the_next_step_goes_by_what_is_kept(self):
        # v = (1 + v0) / 2 from 0: 1/2 is kept as 0, and so again and again; with a bit it comes to 1.
        source = wave((0, 0), (1, 1))
        self.assertEqual(kept_in(2, CHARGED, source, 2, 3, bits=0), [told(0, 0)] * 4)
        values = [told(*pair) for pair in ((0, 0), ("1/2", "1/2"), (1, 0), (1, 0))]
        self.assertEqual(kept_in(2, CHARGED, source, 2, 3, bits=1), values)

    def test_by_the_middle_rule_of_both(self):
        # 4/3 is kept as 1 beside 8/3 as 3: then v = (4 + 3 + 2) / 3 and i = 4 - 3.
        values = [told(*pair) for pair in ((0, 0), (1, 3), (3, 1), (4, 0))]
        self.assertEqual(kept_in(2, CHARGED, wave((0, 0), (1, 4)), 2, 3, 1, bits=0), values)

    def test_every_number_of_bits(self):
        for bits in range(65):
            fine = 2 ** bits
            value = Fraction(0)
            for answer in kept_in(2, [V(1, 0), R(1, 2, 1), C(2, 0, 2)], wave((0, 0), (1, 1)), 2, 5, bits=bits)[1:]:
                value = (1 + 2 * value) / 3
                current = Fraction(round((1 - value) * fine), fine)
                value = Fraction(round(value * fine), fine)
                self.assertEqual(answer, told(value, current))


if __name__ == "__main__":
    unittest.main()
