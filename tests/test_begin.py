"""begin: what is taken, and each refusal at its edges."""

import unittest

from helper import C, D, E, F, G, H, I, L, M, O, R, S, T, V
from helper import answer_last, ask, begin, element, flat, net, start, step, wave

MOST = 1000000
HUGE = 4294967295


def answered(network, waves=()):
    return answer_last(begin(network, waves))


class Taken(unittest.TestCase):
    def test_without_waves(self):
        self.assertEqual(answered(net(1, R(1, 0, 1))), [0])

    def test_no_elements(self):
        self.assertEqual(answered([1]), [0])

    def test_with_waves(self):
        self.assertEqual(answered(net(2, V(1, 0), R(1, 2, 1), I(2, 0)), flat(3) + wave((0, 1), (2, 3), period=4)), [0])

    def test_every_kind(self):
        parts = [R(1, 2, 1), C(2, 3, "1/2"), L(3, 4, 4), L(4, 0, 9), M(2, 3, -6), H(5, 0, 0, -1), F(5, 0, 5, 0),
                 T(1, 2, 3, 4, -1), E(6, 0, 1, 2, -5), O(6, 0, 7, 8)]
        self.assertEqual(answered(net(8, *parts)), [0])
        self.assertEqual(answered(net(1, G(1, 0, 1, 0, -1), S(1, 0, 0), S(1, 0, 1), D(1, 0, 0), D(1, 0, 5))), [0])

    def test_what_a_kind_does_not_use_is_not_looked_at(self):
        self.assertEqual(answered(net(1, element(0, 1, 0, 63, 63, 1))), [0])
        self.assertEqual(answered(net(1, R(1, 0, 1), element(8, 1, 0, 0, 63, 1))), [0])
        self.assertEqual(answered(net(1, L(1, 0, 1), L(1, 0, 1), element(3, 0, 1, 63, 63, 1))), [0])
        for kind in (4, 5):
            self.assertEqual(answered(net(1, element(kind, 1, 0, 63, 63, -7)), flat(1)), [0])

    def test_numbers_not_in_lowest_terms(self):
        self.assertEqual(answered([1, 12, 1, 0, 0, 0, 3, 3]), [0])
        self.assertEqual(answered([1, 12, 1, 0, 0, 0, 0, 3]), [0])

    def test_coils_before_and_behind_one_another(self):
        coils = [L(1, 0, 1), L(1, 0, 1), L(1, 0, 1)]
        self.assertEqual(answered(net(1, *coils, M(1, 0, 1), M(2, 0, 1), M(1, 2, 1))), [0])


class NoNetwork(unittest.TestCase):
    """-1: the row isn't a network's."""

    def test_nodes(self):
        for nodes in (-HUGE, -1, 0, 9, HUGE):
            self.assertEqual(answered(net(nodes, R(1, 0, 1))), [-1], nodes)
        for nodes in (1, 8):
            self.assertEqual(answered(net(nodes, R(1, 0, 1))), [0], nodes)

    def test_sevens(self):
        whole = net(1, R(1, 0, 1), R(1, 0, 1))
        for length in range(len(whole) + 1):
            self.assertEqual(answered(whole[:length]), [0] if length in (1, 8, 15) else [-1], length)

    def test_how_many_elements(self):
        self.assertEqual(answered(net(1, *[R(1, 0, 1)] * 10)), [0])
        for count in (11, 14, 17):
            self.assertEqual(answered(net(1, *[R(1, 0, 1)] * count)), [-1], count)

    def test_how_many_diodes(self):
        self.assertEqual(answered(net(1, *[D(1, 0)] * 3)), [0])
        self.assertEqual(answered(net(1, *[D(1, 0)] * 4)), [-1])
        self.assertEqual(answered(net(1, D(1, 0), R(1, 0, 1), D(1, 0), D(1, 0), S(1, 0, 0), D(1, 0))), [-1])

    def test_kinds(self):
        for kind in (-1, 14, -HUGE, HUGE):
            self.assertEqual(answered(net(1, element(kind, 1, 0, q=1))), [-1], kind)
        self.assertEqual(answered(net(1, element(13, 1, 0, q=1))), [0])
        self.assertEqual(answered(net(1, element(0, 1, 0, q=1))), [0])

    def test_each_of_the_next_four(self):
        for place in range(1, 5):
            for number in (-1, 64, -HUGE, HUGE):
                part = R(1, 0, 1)
                part[place] = number
                self.assertEqual(answered(net(1, part)), [-1], (place, number))
            part = R(1, 0, 1)
            part[place] = 63
            self.assertEqual(answered(net(1, part)), [-2, 0, 1] if place < 3 else [0], place)

    def test_numerators(self):
        for top in (-MOST, MOST):
            self.assertEqual(answered([1, 6, 1, 0, 0, 0, top, 1]), [0], top)
        for top in (-MOST - 1, MOST + 1, -HUGE, HUGE):
            self.assertEqual(answered([1, 6, 1, 0, 0, 0, top, 1]), [-1], top)

    def test_denominators(self):
        for bottom in (1, MOST):
            self.assertEqual(answered([1, 6, 1, 0, 0, 0, 1, bottom]), [0], bottom)
        for bottom in (-HUGE, -1, 0, MOST + 1, HUGE):
            self.assertEqual(answered([1, 6, 1, 0, 0, 0, 1, bottom]), [-1], bottom)

    def test_form_of_a_number_that_is_not_used(self):
        self.assertEqual(answered([1, 4, 1, 0, 0, 0, 0, 0], flat(1)), [-1])
        self.assertEqual(answered([1, 5, 1, 0, 0, 0, MOST + 1, 1], flat(1)), [-1])

    def test_before_what_is_wrong(self):
        self.assertEqual(answered(net(1, R(5, 0, 0), element(14, 1, 0))), [-1])
        self.assertEqual(answered(net(9, V(1, 0))), [-1])


class WrongNetwork(unittest.TestCase):
    """-2: an element, and what's wrong with it."""

    def test_nodes_of_kinds_with_two(self):
        for kind, q in ((0, 1), (1, 1), (2, 1), (4, 0), (5, 0), (8, 1), (9, 1), (12, 1), (13, 1)):
            for a, b in ((3, 0), (0, 3)):
                network = net(2, R(1, 0, 1), element(kind, a, b, 0, 63, q))
                self.assertEqual(answered(network, flat(1)), [-2, 1, 1], (kind, a, b))
            network = net(2, R(1, 0, 1), element(kind, 2, 2, 0, 63, q))
            self.assertEqual(answered(network, flat(1) if kind in (4, 5) else ()), [0], kind)

    def test_nodes_of_kinds_with_four(self):
        for kind, q in ((6, 1), (7, 1), (10, 1), (11, 0)):
            for place in range(1, 5):
                part = element(kind, 2, 2, 2, 2, q)
                self.assertEqual(answered(net(2, part)), [0], kind)
                part[place] = 3
                self.assertEqual(answered(net(2, part)), [-2, 0, 1], (kind, place))

    def test_a_mutual_has_no_nodes(self):
        coils = [R(1, 0, 1), R(1, 0, 1), L(1, 0, 1), L(1, 0, 1)]
        self.assertEqual(answered(net(1, *coils, M(2, 3, 1))), [0])

    def test_numbers(self):
        wrong = {0: (0, -1), 1: (0, -1), 2: (0, -1), 10: (0,), 11: (1, -1, "1/2"), 12: (2, -1, "1/2"), 13: (-1, "-1/9")}
        right = {0: (1, "1/9"), 1: (1, "1/9"), 2: (1, "1/9"), 10: (1, -1, "1/9"), 11: (0,), 12: (0, 1), 13: (0, 1)}
        for kind in wrong:
            for q in wrong[kind]:
                self.assertEqual(answered(net(1, element(kind, 1, 0, q=q))), [-2, 0, 2], (kind, q))
            for q in right[kind]:
                self.assertEqual(answered(net(1, element(kind, 1, 0, q=q))), [0], (kind, q))
        for kind in (6, 7):
            for q in (0, -1, 1):
                self.assertEqual(answered(net(1, element(kind, 1, 0, q=q))), [0], (kind, q))

    def test_reference_of_followers(self):
        for kind in (8, 9):
            for x in (1, 2, 63):
                network = net(1, R(1, 0, 1), element(kind, 1, 0, x, q=1), R(1, 0, 1))
                self.assertEqual(answered(network), [-2, 1, 3], (kind, x))
            coils = [L(1, 0, 1), L(1, 0, 1), M(0, 1, 1)]
            self.assertEqual(answered(net(1, *coils, element(kind, 1, 0, 2, q=1))), [-2, 3, 3])
            for x in (0, 1):
                self.assertEqual(answered(net(1, *coils, element(kind, 1, 0, x, q=1))), [0])
            self.assertEqual(answered(net(1, element(kind, 1, 0, 0, q=1))), [-2, 0, 3])

    def test_a_follower_may_follow_every_kind_but_mutuals(self):
        for kind, q in ((0, 1), (1, 1), (2, 1), (6, 1), (7, 1), (10, 1), (11, 0), (12, 0), (13, 0)):
            self.assertEqual(answered(net(1, element(kind, 1, 0, q=q), H(1, 0, 0, 1), F(1, 0, 1, 1))), [0], kind)
        for kind in (4, 5):
            self.assertEqual(answered(net(1, element(kind, 1, 0), H(1, 0, 0, 1)), flat(1)), [0], kind)

    def test_references_of_mutuals(self):
        coils = [L(1, 0, 1), L(1, 0, 1), R(1, 0, 1)]
        for x, y in ((0, 0), (0, 2), (2, 0), (0, 3), (3, 0), (0, 4), (4, 0), (63, 0), (2, 2)):
            self.assertEqual(answered(net(1, *coils, M(x, y, 0), L(1, 0, 1))), [-2, 3, 3], (x, y))
        for x, y in ((0, 1), (1, 0)):
            self.assertEqual(answered(net(1, *coils, M(x, y, 0))), [0])
            for again in ((0, 1), (1, 0)):
                self.assertEqual(answered(net(1, *coils, M(x, y, 0), M(*again, 0))), [-2, 4, 3])

    def test_square_of_a_mutual(self):
        coils = [L(1, 0, 2), L(1, 0, "9/2")]
        for q in (3, -3, 0, "29999/10000"):
            self.assertEqual(answered(net(1, *coils, M(0, 1, q))), [0], q)
        for q in (4, -4, "30001/10000", "-30001/10000"):
            self.assertEqual(answered(net(1, *coils, M(0, 1, q))), [-2, 2, 2], q)

    def test_order_within_an_element(self):
        self.assertEqual(answered(net(1, R(2, 0, 0))), [-2, 0, 1])
        self.assertEqual(answered(net(1, T(1, 0, 0, 2, 0))), [-2, 0, 1])
        self.assertEqual(answered(net(1, O(1, 0, 0, 2)[:5] + [1, 1])), [-2, 0, 1])
        self.assertEqual(answered(net(1, H(2, 0, 9, 1))), [-2, 0, 1])
        coils = [L(1, 0, 1), L(1, 0, 1)]
        self.assertEqual(answered(net(1, *coils, M(0, 0, 2))), [-2, 2, 3])
        self.assertEqual(answered(net(1, *coils, M(0, 1, 1), M(1, 0, 2))), [-2, 3, 3])
        self.assertEqual(answered(net(1, *coils, M(0, 2, 2))), [-2, 2, 3])

    def test_the_first_wrong_element(self):
        self.assertEqual(answered(net(1, R(1, 0, 1), H(1, 0, 5, 1), R(1, 0, 0), R(2, 0, 1))), [-2, 1, 3])
        self.assertEqual(answered(net(1, R(1, 0, 1), R(1, 0, 0), R(2, 0, 1))), [-2, 1, 2])
        self.assertEqual(answered(net(1, R(1, 0, 1), R(2, 0, 1), R(1, 0, 0))), [-2, 1, 1])

    def test_before_waves(self):
        self.assertEqual(answered(net(1, V(1, 0), R(1, 0, 0))), [-2, 1, 2])


class WrongWaves(unittest.TestCase):
    """-3: the first V or I whose wave isn't one, or how many elements there are."""

    ONE = net(1, R(1, 0, 1), V(1, 0))

    def assert_wrong(self, *waves):
        for row in waves:
            self.assertEqual(answered(self.ONE, row), [-3, 1], row)

    def assert_right(self, *waves):
        for row in waves:
            self.assertEqual(answered(self.ONE, row), [0], row)

    def test_not_there(self):
        self.assert_wrong([])
        two = net(1, V(1, 0), R(1, 0, 1), I(1, 0))
        self.assertEqual(answered(two, flat(1)), [-3, 2])
        self.assertEqual(answered(two, flat(1) + flat(2)), [0])
        self.assertEqual(answered(two), [-3, 0])

    def test_how_many_points(self):
        points = [(k, 1) for k in range(9)]
        self.assert_right(wave(*points[:1]), wave(*points[:8]))
        self.assert_wrong(wave(*points), wave(), [0, 0, 1], [-1, 0, 1], [HUGE, 0, 1], [-HUGE])
        self.assert_wrong([0] + flat(1)[1:], [9] + flat(1)[1:])

    def test_not_all_there(self):
        whole = wave((0, 1), (1, 2))
        self.assert_wrong(*[whole[:length] for length in range(len(whole))])
        self.assert_right(whole)

    def test_each_number_at_its_edges(self):
        whole = wave((0, 1), (1, 2), period=3)
        for place in (2, 4, 6, 8, 10):
            for bottom in (0, -1, MOST + 1, -HUGE, HUGE):
                self.assert_wrong(whole[:place] + [bottom] + whole[place + 1:])
        for place in (1, 3, 5, 7, 9):
            for top in (-MOST - 1, MOST + 1, -HUGE, HUGE):
                self.assert_wrong(whole[:place] + [top] + whole[place + 1:])
        for top in (-MOST, MOST):
            self.assert_right([1, 0, 1, 0, 1, top, MOST])
        self.assert_right([1, 0, MOST, 0, MOST, 1, 1], [2, MOST, 1, 0, 1, 1, 1, MOST - 1, 1, 1, 1])
        self.assert_wrong([1, 0, 0, 0, 1, 1, 1], [1, 0, MOST + 1, 0, 1, 1, 1])

    def test_times_rise_from_zero(self):
        self.assert_wrong(wave((1, 1)), wave((-1, 1)), wave((-1, 1), (0, 1)), wave(("1/9", 1), (1, 1)))
        self.assert_wrong(wave((0, 1), (0, 2)), wave((0, 1), (2, 2), (1, 3)), wave((0, 1), (-1, 1)))
        self.assert_wrong([3, 0, 1, 0, 1, 1, 1, 1, 2, 1, 1, 2, 4, 1, 1])
        self.assert_right(wave((0, 1), ("1/3", 1), ("1/2", 1)))

    def test_period(self):
        self.assert_wrong(wave((0, 1), period=-1), wave((0, 1), (2, 1), period=2), wave((0, 1), (2, 1), period=1))
        self.assert_wrong(wave((0, 1), (2, 1), period="-5"), [2, 4, 2, 0, 1, 1, 1, 2, 1, 1, 1])
        self.assert_right(wave((0, 1), (2, 1), period="200001/100000"), wave((0, 1), period="1/1000000"))

    def test_numbers_are_left(self):
        self.assertEqual(answered(self.ONE, flat(1) + [0]), [-3, 2])
        self.assertEqual(answered(self.ONE, flat(1) + flat(1)), [-3, 2])
        self.assertEqual(answered(net(1, R(1, 0, 1)), [0]), [-3, 1])
        self.assertEqual(answered([1], [5, 5]), [-3, 0])

    def test_the_first_wrong_one(self):
        three = net(1, I(1, 0), R(1, 0, 1), V(1, 0), I(1, 0))
        self.assertEqual(answered(three, flat(1) + flat(1) + flat(1)), [0])
        self.assertEqual(answered(three, wave((1, 1)) + [0] + flat(1)), [-3, 0])
        self.assertEqual(answered(three, flat(1) + wave((1, 1)) + wave((1, 1))), [-3, 2])
        self.assertEqual(answered(three, flat(1) + flat(1) + wave((1, 1))), [-3, 3])


class WhatItLeaves(unittest.TestCase):
    # Its wave lets three steps be made: at time 4 the diode can be neither on nor off.
    THREE = begin(net(1, V(1, 0), D(1, 0, 5)), wave((0, 0), (3, 0), (4, 6)))
    REFUSED = (begin([9]), begin(net(1, R(2, 0, 1))), begin(net(1, V(1, 0))), begin([1], [1]))

    def test_a_refused_one_leaves_all_as_it_was(self):
        for refused in self.REFUSED:
            told = ask(self.THREE, start(), step(2), refused, step(5))
            self.assertLess(told[3][0], 0)
            self.assertEqual(told[4], [0, 1])
            self.assertEqual(ask(self.THREE, refused, start(), step(5))[2:], [[0], [0, 3]])
            self.assertEqual(ask(self.THREE, refused, step(5))[2:], [[-8]])
            self.assertEqual(ask(refused, start(), step(5))[1:], [[-8], [-8]])

    def test_one_that_is_taken_ends_the_run(self):
        other = begin(net(1, R(1, 0, 1)))
        self.assertEqual(ask(self.THREE, start(), step(2), self.THREE, step(1)), [[0], [0], [0, 2], [0], [-8]])
        self.assertEqual(ask(self.THREE, start(), step(2), other, step(1), start(), step(100)),
                         [[0], [0], [0, 2], [0], [-8], [0], [0, 100]])


if __name__ == "__main__":
    unittest.main()
