"""The five promises, seen from outside: all by the calls alone."""

import unittest
from fractions import Fraction

from helper import C, D, E, F, G, H, I, L, M, O, R, S, T, V
from helper import ask, begin, flat, is_on, kept, looks, net, now, sampled, start, step, told, wave

CHARGED = [V(1, 0), R(1, 2, 1), C(2, 0, 1)]
COIL_FED = [V(1, 0), R(1, 2, 1), L(2, 0, 1)]
RECTIFIER = [V(1, 0), D(1, 2), C(2, 0, 1), R(2, 0, 1)]
# In a step both off and on hold while V is at most twice the coil's kept current (on, its current is 2 V less that).
BISTABLE = [V(1, 0), R(1, 2, 1), D(2, 3, 0), L(3, 0, 1), G(3, 0, 3, 0, "-3/2")]
SWINGING = wave((0, 0), (1, 9), (3, -9), period=4)
NETWORKS = (
    (2, RECTIFIER, SWINGING),
    (3, [V(1, 0), R(1, 2, 3), C(2, 3, 2), L(3, 0, "1/5")], SWINGING),
    (3, [V(1, 0), R(1, 2, 1), L(2, 0, 1), L(3, 0, 4), M(2, 3, -2), R(3, 0, 10), D(3, 0, 1), D(0, 3, "1/2")], SWINGING),
    (4, [I(0, 1), R(1, 0, 8), T(1, 0, 2, 0, 2), R(2, 3, 1), D(3, 4, "1/2"), C(4, 0, 1), R(4, 0, 1), D(1, 0, 3)], SWINGING),
)


def course(nodes, parts, waves, calls, steps, rule=0, hn=1, hd=1, bits=64):
    """What the calls tell at the operating point and after each of so many steps, which must all be made."""
    asked = list(calls) + [call for k in range(steps) for call in [step(1)] + list(calls)]
    answered = ask(begin(net(nodes, *parts), waves), start(rule, hn, hd, bits), *asked)
    assert answered[:2] == [[0], [0]], answered
    rows = [answered[2:2 + len(calls)]]
    for at in range(2 + len(calls), len(answered), len(calls) + 1):
        assert answered[at] == [0, 1], answered
        rows.append(answered[at + 1:at + 1 + len(calls)])
    return rows


def seen(nodes, parts, waves, *calls, rule=0, hn=1, hd=1, bits=64):
    """All that can be told of a run after the calls."""
    looking = looks(nodes, parts)
    return ask(begin(net(nodes, *parts), waves), start(rule, hn, hd, bits), *calls, *looking)[-len(looking):]


class ByTheRule(unittest.TestCase):
    """1. A step that's made goes by its rule, its kept values are rounded as told."""

    def assert_tells(self, rows, *values):
        self.assertEqual(rows, [[told(value) for value in row] for row in values])

    def test_a_capacitor_by_both_rules(self):
        calls = (now(4), now(0, 2), now(1, 2), now(3, 2))
        self.assert_tells(course(2, CHARGED, wave((0, 0), (1, 8)), calls, 3),
                          (0, 0, 0, 0), (1, 4, 4, 16), (2, 6, 2, 12), (3, 7, 1, 7))
        self.assert_tells(course(2, CHARGED, wave((0, 0), (1, 9)), calls, 2, 1),
                          (0, 0, 0, 0), (1, 3, 6, 18), (2, 7, 2, 14))

    def test_a_coil_by_both_rules(self):
        calls = (now(4), now(0, 2), now(1, 2), now(3, 2))
        self.assert_tells(course(2, COIL_FED, wave((0, 0), (1, 8)), calls, 3),
                          (0, 0, 0, 0), (1, 4, 4, 16), (2, 2, 6, 12), (3, 1, 7, 7))
        self.assert_tells(course(2, COIL_FED, wave((0, 0), (1, 9)), calls, 2, 1),
                          (0, 0, 0, 0), (1, 6, 3, 18), (2, 2, 7, 14))

    def test_a_coil_and_a_capacitor(self):
        # Once the source has ended v = v0 - i and v = i + (i - i0): the coil's current is (v0 + i0) / 3.
        parts = [I(0, 1), L(1, 2, 1), R(2, 0, 1), C(1, 0, 1)]
        self.assert_tells(course(2, parts, sampled([3, 0]), (now(0, 1), now(1, 1), now(1, 3)), 3),
                          (3, 3, 0), (1, 2, -2), (0, 1, -1), ("-1/3", "1/3", "-1/3"))

    def test_coupled_coils(self):
        # V = i + (i - i0) + 2 (j - j0) and -4 j = 4 (j - j0) + 2 (i - i0), solved for i and j.
        parts = COIL_FED + [L(3, 0, 4), M(2, 3, 2), R(3, 0, 4)]
        first, second = Fraction(0), Fraction(0)
        values = [(first, second)]
        for k in range(4):
            one, two = 12 + first + 2 * second, 4 * second + 2 * first
            first, second = (8 * one - 2 * two) / 12, (2 * two - 2 * one) / 12
            values.append((first, second))
            first, second = Fraction(round(first * 4), 4), Fraction(round(second * 4), 4)
        self.assert_tells(course(3, parts, wave((0, 0), (1, 12)), (now(1, 2), now(1, 3)), 4, bits=2), *values)

    def test_a_rectifier(self):
        rows = course(2, RECTIFIER, sampled([0, 4, 2, -8, 1]), (now(0, 2), now(1, 1), is_on(1), kept(2)), 4)
        self.assertEqual(rows, [
            [told(0), told(0), [0, 0], told(0, 0)],
            [told(4), told(8), [0, 1], told(4, 4)],
            [told(2), told(0), [0, 1], told(2, -2)],
            [told(1), told(0), [0, 0], told(1, -1)],
            [told(1), told(1), [0, 1], told(1, 0)],
        ])

    def test_what_is_kept_is_rounded_and_what_is_told_is_not(self):
        # v = (3 + v0) / 2: 3/2 is kept as 2, 5/2 as 2.
        rows = course(2, CHARGED, wave((0, 0), (1, 3)), (now(0, 2), now(1, 2), kept(2)), 3, bits=0)
        self.assertEqual(rows, [
            [told(0), told(0), told(0, 0)],
            [told("3/2"), told("3/2"), told(2, 2)],
            [told("5/2"), told("1/2"), told(2, 0)],
            [told("5/2"), told("1/2"), told(2, 0)],
        ])

    def test_kept_is_told_rounded(self):
        for nodes, parts, waves in NETWORKS:
            storages = [k for k, part in enumerate(parts) if part[0] in (1, 2)]
            for rule in (0, 1):
                for bits in (0, 1, 5, 64):
                    fine = 2 ** bits
                    for k in storages:
                        for voltage, current, both in course(nodes, parts, waves, (now(2, k), now(1, k), kept(k)), 12,
                                                             rule, 2, 3, bits):
                            values = [Fraction(*answer[1:]) for answer in (voltage, current)]
                            self.assertEqual(both, told(*[Fraction(round(x * fine), fine) for x in values]))


class Cuts(unittest.TestCase):
    """2. Steps cut into calls in any way come to the same."""

    CUTS = ((24,), (12, 12), (5, 7, 12), (1,) * 24, (0, 3, 0, 9, 0, 12), (23, 1))

    def test_the_same_however_they_are_cut(self):
        for nodes, parts, waves in NETWORKS:
            for rule in (0, 1):
                for bits in (3, 64):
                    views = [seen(nodes, parts, waves, *[step(n) for n in cut], rule=rule, hn=2, hd=3, bits=bits)
                             for cut in self.CUTS]
                    self.assertEqual(views[0][0], told(16))
                    self.assertEqual(views, [views[0]] * len(self.CUTS))

    def test_the_same_with_looks_between(self):
        between = [now(0, 1), now(1, 2), now(2, 3), now(3, 1), now(4), is_on(1), is_on(3), kept(2), kept(3), now(7), kept(99)]
        for nodes, parts, waves in NETWORKS:
            for rule in (0, 1):
                plain = seen(nodes, parts, waves, step(12), rule=rule, bits=5)
                for cut in ((5, 7), (2, 10), (12, 0)):
                    calls = between + [call for n in cut for call in [step(n)] + between]
                    self.assertEqual(seen(nodes, parts, waves, *calls, rule=rule, bits=5), plain)

    def test_the_same_with_refused_calls_between(self):
        refused = [step(101), start(2), start(0, 0, 1), start(bits=65), begin([0]), begin(net(1, R(2, 0, 1))),
                   begin(net(1, V(1, 0))), now(5), is_on(0), kept(0)]
        for nodes, parts, waves in NETWORKS:
            plain = seen(nodes, parts, waves, step(12), bits=5)
            calls = refused + [step(5)] + refused + [step(7)] + refused
            self.assertEqual(seen(nodes, parts, waves, *calls, bits=5), plain)

    def test_the_same_where_they_end(self):
        parts = RECTIFIER + [D(1, 0, 5)]
        source = wave((0, 0), (1, 4), (7, -2), (8, 3), (9, 6))
        plain = seen(2, parts, source, step(8))
        for cut in self.CUTS:
            self.assertEqual(seen(2, parts, source, *[step(n) for n in cut]), plain)


class Rows(unittest.TestCase):
    """3. A row of states stays as long as it goes."""

    def test_on_stays_though_off_would_go_too(self):
        rows = course(3, BISTABLE, flat(1), (is_on(2), now(1, 2)), 5)
        self.assertEqual(rows, [[[0, 1], told(1)]] * 6)
        rows = course(3, BISTABLE, sampled([1, "3/2", "3/2"]), (is_on(2), now(1, 2)), 2)
        self.assertEqual(rows, [[[0, 1], told(x)] for x in (1, "1/2", "5/2")])

    def test_off_and_on_stay_where_both_would_go(self):
        # After the operating point the waves are the same, and the coil's kept current is 1; off, it is 3 i0 then.
        parts = BISTABLE + [I(0, 3)]
        on = course(3, parts, flat(1) + flat(0), (is_on(2), now(1, 3)), 2)
        self.assertEqual(on, [[[0, 1], told(1)]] * 3)
        off = course(3, parts, sampled([0, 1]) + sampled([1, 0]), (is_on(2), now(1, 3)), 2)
        self.assertEqual(off, [[[0, 0], told(x)] for x in (1, 3, 9)])

    def test_at_the_edge_of_both(self):
        rows = course(1, [I(0, 1), R(1, 0, 1), D(1, 0, 1)], sampled([2, 1, 1, 0, 1]), (is_on(2), now(0, 1), now(1, 2)), 4)
        self.assertEqual(rows, [
            [[0, 1], told(1), told(1)],
            [[0, 1], told(1), told(0)],
            [[0, 1], told(1), told(0)],
            [[0, 0], told(0), told(0)],
            [[0, 0], told(1), told(0)],
        ])

    def test_a_later_row_stays(self):
        # Where V is 1 either diode could take the current, and off, on comes before on, off; where it is 5 only the
        # first could, where it is 0 only the second.
        parts = [I(0, 1), R(1, 0, 1), D(1, 0, 1), D(1, 2, 0), V(2, 0)]
        calls = (is_on(2), is_on(3), now(1, 2), now(1, 3))
        first, second = [[0, 1], [0, 0], told(2), told(0)], [[0, 0], [0, 1], told(0), told(2)]
        lower = [[0, 0], [0, 1], told(0), told(3)]
        self.assertEqual(course(2, parts, flat(3) + flat(1), calls, 2), [second] * 3)
        self.assertEqual(course(2, parts, flat(3) + sampled([5, 1, 1]), calls, 2), [first] * 3)
        self.assertEqual(course(2, parts, flat(3) + sampled([5, 1, 0, 1]), calls, 3), [first, first, lower, second])


class NotMade(unittest.TestCase):
    """4. A step that can't be made changes nothing."""

    def assert_stays(self, nodes, parts, waves, made, **how):
        before = seen(nodes, parts, waves, step(made), **how)
        after = seen(nodes, parts, waves, step(made), step(1), step(7), step(100), **how)
        self.assertEqual(after, before)
        self.assertEqual(seen(nodes, parts, waves, step(100), **how), before)
        answered = ask(begin(net(nodes, *parts), waves), start(**how), step(made), step(1), step(100))
        self.assertEqual(answered[2:], [[0, made], [0, 0], [0, 0]])

    def test_a_diode_that_cannot_be_on(self):
        parts = [V(1, 0), D(1, 0, 5), V(2, 0), R(2, 3, 1), C(3, 4, 1), L(4, 0, 1), D(3, 0, 1)]
        for rule in (0, 1):
            for made in (0, 1, 4):
                limit = wave((0, 0), (made, 0), (made + 1, 6)) if made else wave((0, 0), (1, 6))
                self.assert_stays(4, parts, limit + wave((0, 0), (9, 9)), made, rule=rule, bits=9)

    def test_neither_off_nor_on(self):
        self.assert_stays(3, BISTABLE, sampled([1, "3/2", "3/2", "5/2"]), 2)

    def test_laws_that_are_not_regular(self):
        parts = [R(1, 0, 1), G(1, 0, 1, 0, -2), C(1, 0, 1), I(0, 1)]
        self.assert_stays(1, parts, flat(3), 0)

    def test_it_is_not_made_later_either(self):
        # The wave is below the limit again behind the step that can't be made.
        self.assert_stays(1, [V(1, 0), D(1, 0, 5)], wave((0, 0), (2, 0), (3, 9), (4, 0)), 2)

    def test_a_new_start_goes_on_from_nothing(self):
        parts = [V(1, 0), D(1, 0, 5)]
        answered = ask(begin(net(1, *parts), wave((0, 0), (2, 0), (3, 9), (4, 0))), start(), step(5), start(hn=2), now(4),
                       step(5), now(4))
        self.assertEqual(answered[2:], [[0, 2], [0], told(0), [0, 5], told(10)])


class Rest(unittest.TestCase):
    """5. Where waves stand still a run stays at the operating point (but for rounding)."""

    STILL = (
        (2, CHARGED, flat(3)),
        (2, COIL_FED, flat(3)),
        (3, BISTABLE, flat(1)),
        (2, RECTIFIER, flat(5)),
        (3, [V(1, 0), R(1, 2, 2), L(2, 0, 1), L(3, 0, 4), M(2, 3, 2), R(3, 0, 1), C(2, 3, 7)], flat("5/2")),
        (4, [I(0, 1), R(1, 0, 8), T(1, 0, 2, 0, 2), R(2, 3, 1), D(3, 4, "1/2"), C(4, 0, 1), R(4, 0, 1)], wave((0, 6), (9, 6))),
        (4, [V(1, 0), R(1, 2, 2), C(2, 3, 1), R(2, 3, 4), O(3, 0, 2, 0), E(4, 0, 3, 0, 2), R(4, 0, 1), S(4, 1, 0)],
         wave((0, 3), (1, 3), (2, 3), period=5)),
        (4, [V(1, 0), R(1, 2, 1), L(2, 0, 1), H(3, 0, 2, 2), F(3, 4, 2, 2), C(4, 0, 3), R(4, 0, 1)], flat(1)),
    )

    def test_it_stays_at_the_operating_point(self):
        for nodes, parts, waves in self.STILL:
            for rule in (0, 1):
                first = seen(nodes, parts, waves, rule=rule, hn=1, hd=3)
                later = seen(nodes, parts, waves, step(60), rule=rule, hn=1, hd=3)
                self.assertEqual(first[0], told(0))
                self.assertEqual(later[0], told(20))
                self.assertEqual(later[1:], first[1:])

    def test_but_for_rounding(self):
        for parts in (CHARGED, COIL_FED):
            for rule in (0, 1):
                for bits in (4, 10, 64):
                    rows = course(2, parts, flat("1/3"), (now(0, 2), now(1, 2)), 30, rule, bits=bits)
                    for row in rows:
                        for answer, first in zip(row, rows[0]):
                            self.assertLess(abs(Fraction(*answer[1:]) - Fraction(*first[1:])), Fraction(1, 2 ** bits))

    def test_from_when_they_stand_still(self):
        # A wave that stands still at first: the run stays until it moves.
        rows = course(2, CHARGED, wave((0, 4), (3, 4), (4, 8)), (now(0, 2), now(1, 2)), 4)
        self.assertEqual(rows, [[told(4), told(0)]] * 4 + [[told(6), told(2)]])


if __name__ == "__main__":
    unittest.main()
