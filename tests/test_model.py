"""Networks without number, run beside a plain model that is written from the laws as they are told."""

import random
import unittest
from fractions import Fraction

from helper import C, D, E, F, G, H, I, L, M, O, R, S, T, V
from helper import net, told, wave
from networktime.simulator import Simulator

ONE = "one"
# The kinds a network is drawn from, those that change in time most often.
KINDS = (0, 1, 1, 1, 1, 2, 2, 2, 3, 3, 3, 4, 5, 5, 6, 7, 7, 8, 9, 9, 10, 11, 12, 13, 13, 13, 13)


def expression(*terms):
    """A sum of (number, name) as a dict."""
    total = {}
    for number, name in terms:
        total[name] = total.get(name, 0) + Fraction(number)
    return total


def combined(*parts):
    return expression(*[(number * x, name) for number, part in parts for name, x in part.items()])


def voltage(a, b):
    return expression(*[(sign, ("u", node)) for sign, node in ((1, a), (-1, b)) if node])


def current(k, which="i"):
    return expression((1, (which, k)))


def solved(names, equations):
    """What each name is when all expressions come to 0; None if that's not just one way."""
    rows = [dict(equation) for equation in equations]
    done = {}
    for name in names:
        row = next((row for row in rows if row.get(name, 0)), None)
        if row is None:
            return None
        rows.remove(row)
        rule = {other: -x / row[name] for other, x in row.items() if other != name and x}
        for place, other in enumerate(rows):
            factor = other.pop(name, 0)
            rows[place] = combined((1, other), (factor, rule))
        for key in done:
            factor = done[key].pop(name, 0)
            done[key] = combined((1, done[key]), (factor, rule))
        done[name] = rule
    return {name: rule.get(ONE, Fraction(0)) for name, rule in done.items()}


class Model:
    def __init__(self, nodes, parts, waves):
        self.nodes, self.waves = nodes, waves
        self.parts = [(*part[:5], Fraction(part[5], part[6])) for part in parts]
        self.diodes = [k for k, part in enumerate(self.parts) if part[0] == 13]
        self.rows = [()]
        for k in self.diodes:
            self.rows = [row + (state,) for row in self.rows for state in (False, True)]

    def names(self):
        """The unknowns: the nodes' voltages but 0's, then the currents."""
        names = [("u", node) for node in range(1, self.nodes + 1)]
        for k, part in enumerate(self.parts):
            names += [] if part[0] == 3 else [("i", k), ("j", k)] if part[0] == 10 else [("i", k)]
        return names

    def value(self, k, time):
        points, period = self.waves[k]
        if period:
            time = time % period
        for (before, low), (behind, high) in zip(points, points[1:]):
            if before <= time <= behind:
                return low + (high - low) * (time - before) / (behind - before)
        return points[-1][1]

    def nodes_laws(self):
        sums = {node: [] for node in range(self.nodes + 1)}
        for k, (kind, a, b, c, d, q) in enumerate(self.parts):
            if kind != 3:
                sums[a].append((1, ("i", k)))
                sums[b].append((-1, ("i", k)))
            if kind == 10:
                sums[c].append((1, ("j", k)))
                sums[d].append((-1, ("j", k)))
        return [expression(*sums[node]) for node in range(1, self.nodes + 1)]

    def storage_law(self, k, rule, h, kept):
        kind, a, b, c, d, q = self.parts[k]
        v, i = voltage(a, b), current(k)
        if h is None:
            return i if kind == 1 else v
        v0, i0 = expression((kept[k][0], ONE)), expression((kept[k][1], ONE))
        if kind == 1:
            told, kept_told, change = i, i0, combined((q / h, v), (-q / h, v0))
        else:
            told, kept_told, change = v, v0, {}
            for x, m in [(k, q)] + [self.other(part, k) for part in self.parts if part[0] == 3 and k in part[1:3]]:
                change = combined((1, change), (m / h, current(x)), (-m / h, expression((kept[x][1], ONE))))
        left = told if rule == 0 else combined((Fraction(1, 2), told), (Fraction(1, 2), kept_told))
        return combined((1, left), (-1, change))

    def other(self, mutual, k):
        return (mutual[2] if mutual[1] == k else mutual[1]), mutual[5]

    def laws(self, states, time, rule, h, kept):
        on = dict(zip(self.diodes, states))
        laws = self.nodes_laws()
        for k, (kind, a, b, c, d, q) in enumerate(self.parts):
            v, i, w = voltage(a, b), current(k), voltage(c, d)
            if kind == 0:
                laws.append(combined((1, v), (-q, i)))
            elif kind in (1, 2):
                laws.append(self.storage_law(k, rule, h, kept))
            elif kind in (4, 5):
                laws.append(combined((1, v if kind == 4 else i), (-self.value(k, time), {ONE: Fraction(1)})))
            elif kind in (6, 7):
                laws.append(combined((1, v if kind == 6 else i), (-q, w)))
            elif kind in (8, 9):
                laws.append(combined((1, v if kind == 8 else i), (-q, current(c))))
            elif kind == 10:
                laws += [combined((1, v), (-q, w)), combined((1, current(k, "j")), (q, i))]
            elif kind == 11:
                laws.append(w)
            elif kind == 12:
                laws.append(v if q == 1 else i)
            elif kind == 13:
                laws.append(combined((1, v), (-q, {ONE: Fraction(1)})) if on[k] else i)
        return laws

    def settle(self, rows, time, rule=0, h=None, kept=None):
        for states in rows:
            values = solved(self.names(), self.laws(states, time, rule, h, kept))
            if values is not None and self.holds(states, values):
                return states, values
        return None

    def holds(self, states, values):
        for k, on in zip(self.diodes, states):
            if on and values["i", k] < 0 or not on and self.volts(k, values) > self.parts[k][5]:
                return False
        return True

    def volts(self, k, values):
        return values.get(("u", self.parts[k][1]), 0) - values.get(("u", self.parts[k][2]), 0)

    def start(self, rule, h, bits):
        self.rule, self.h, self.bits, self.time = rule, h, bits, Fraction(0)
        point = self.settle(self.rows, self.time)
        if point:
            self.take(*point)
        return point is not None

    def take(self, states, values):
        self.states, self.values = states, values
        fine = 2 ** self.bits
        self.kept = [[Fraction(round(x * fine), fine) for x in (self.volts(k, values), values["i", k])]
                     if part[0] in (1, 2) else None for k, part in enumerate(self.parts)]

    def step(self):
        point = self.settle([self.states] + self.rows, self.time + self.h, self.rule, self.h, self.kept)
        if point:
            self.time += self.h
            self.take(*point)
        return point is not None


class Maker:
    """Draws networks, always the same ones for a seed."""

    def __init__(self, seed):
        self.draw = random.Random(seed)
        self.nodes = self.draw.randint(1, 6)
        self.parts = []
        for node in range(1, self.nodes + 1):
            if self.draw.random() < 0.96:
                self.parts.append(R(node, self.draw.randrange(node), self.number(1)))
        self.add(self.draw.choice((4, 5)))
        most = self.draw.randint(self.nodes + 2, 10)
        while len(self.parts) < most:
            self.add(self.draw.choice(KINDS))
            # Across a source a diode can't be on: it ends the run when the voltage is above its number.
            last = self.parts[-1] if self.parts else [None]
            if last[0] in (4, 6, 8) and len(self.parts) < most and self.diodes() < 3 and self.draw.random() < 0.5:
                self.parts.append(D(last[1], last[2], self.number(0)))
        self.waves = {k: self.a_wave() for k, part in enumerate(self.parts) if part[0] in (4, 5)}

    def number(self, least=-6):
        return Fraction(self.draw.randint(least, 6), self.draw.randint(1, 4))

    def node(self):
        return self.draw.randint(0, self.nodes)

    def diodes(self):
        return sum([part[0] == 13 for part in self.parts])

    def add(self, kind):
        a, b, c, d = [self.node() for k in range(4)]
        if a == b and self.draw.random() < 0.9:
            return
        x = self.draw.randrange(len(self.parts)) if self.parts else 0
        if kind in (8, 9) and (not self.parts or self.parts[x][0] == 3):
            return
        if kind == 13 and self.diodes() == 3:
            return
        makers = {0: lambda: R(a, b, self.number(1)), 1: lambda: C(a, b, self.number(1)),
                  2: lambda: L(a, b, self.number(1)), 3: self.a_mutual, 4: lambda: V(a, b), 5: lambda: I(a, b),
                  6: lambda: E(a, b, c, d, self.number()), 7: lambda: G(a, b, c, d, self.number()),
                  8: lambda: H(a, b, x, self.number()), 9: lambda: F(a, b, x, self.number()),
                  10: lambda: T(a, b, c, d, self.number(1)), 11: lambda: O(a, b, c, d),
                  12: lambda: S(a, b, self.draw.randint(0, 1)), 13: lambda: D(a, b, self.number(0))}
        part = makers[kind]()
        if part:
            self.parts.append(part)

    def a_mutual(self):
        coils = [k for k, part in enumerate(self.parts) if part[0] == 2]
        if len(coils) < 2:
            return None
        x, y = self.draw.sample(coils, 2)
        if any([part[0] == 3 and {part[1], part[2]} == {x, y} for part in self.parts]):
            return None
        q = self.number()
        product = Fraction(*self.parts[x][5:]) * Fraction(*self.parts[y][5:])
        return M(x, y, q) if q * q <= product else None

    def a_wave(self):
        moments = [Fraction(0)]
        for k in range(self.draw.randint(1, 5)):
            moments.append(moments[-1] + self.number(1))
        points = [(moment, self.number()) for moment in moments]
        if self.draw.random() < 0.7:
            points[0] = (Fraction(0), Fraction(0))
        return points, self.draw.choice((0, moments[-1] + self.number(1)))


class Beside(unittest.TestCase):
    def setUp(self):
        self.seen = {"no operating point": 0, "eight steps": 0, "none": 0, "ended": 0, "row changed": 0, "row stayed": 0}

    def compare(self, seed):
        maker = Maker(seed)
        rule, h, bits = maker.draw.randint(0, 1), maker.number(1), maker.draw.choice((0, 1, 3, 8, 64))
        simulator = Simulator()
        numbers = [x for k in sorted(maker.waves) for x in wave(*maker.waves[k][0], period=maker.waves[k][1])]
        self.assertEqual(simulator.begin(net(maker.nodes, *maker.parts), numbers), [0])
        model = Model(maker.nodes, maker.parts, maker.waves)
        could = model.start(rule, h, bits)
        self.assertEqual(simulator.start(rule, h.numerator, h.denominator, bits), [0] if could else [-4])
        if could:
            self.compare_steps(simulator, model)
        else:
            self.seen["no operating point"] += 1

    def compare_steps(self, simulator, model):
        made = 0
        could = True
        self.assert_same(simulator, model)
        while could and made < 8:
            before = model.states
            could = model.step()
            self.assertEqual(simulator.step(1), [0, 1 if could else 0])
            self.assert_same(simulator, model)
            made += 1 if could else 0
            self.seen["row changed" if model.states != before else "row stayed"] += 1
        self.seen["eight steps" if made == 8 else "none" if made == 0 else "ended"] += 1

    def assert_same(self, simulator, model):
        self.assertEqual(simulator.now(4, 0), told(model.time))
        for node in range(model.nodes + 1):
            self.assertEqual(simulator.now(0, node), told(model.values.get(("u", node), 0)))
        self.assertEqual(simulator.now(0, model.nodes + 1), [-3])
        for k, part in enumerate(model.parts):
            self.assert_same_part(simulator, model, k, part[0])
        found = [Fraction(*x) for x in simulator.run.moment.found]
        self.assertEqual(found, [model.values[name] for name in model.names()])

    def assert_same_part(self, simulator, model, k, kind):
        quantities = [simulator.now(what, k) for what in (1, 2, 3)]
        if kind == 3:
            self.assertEqual(quantities, [[-3]] * 3)
        else:
            current, volts = model.values["i", k], model.volts(k, model.values)
            self.assertEqual(quantities, [told(current), told(volts), told(current * volts)])
        on = [0, int(model.states[model.diodes.index(k)])] if kind == 13 else [-3]
        self.assertEqual(simulator.is_on(k), on)
        self.assertEqual(simulator.kept(k), told(*model.kept[k]) if kind in (1, 2) else [-3])

    def test_networks(self):
        for seed in range(500):
            with self.subTest(seed=seed):
                self.compare(seed)
        for what in self.seen:
            self.assertGreater(self.seen[what], 10, what)


if __name__ == "__main__":
    unittest.main()
