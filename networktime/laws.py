"""The laws of a network, at rest and in a step.

The laws of C and L are written with a pace: (rule + 1) / h in a step, 0 at rest.
C: i - pace q v = - pace q v0 - rule i0; L: v - pace (sum of q i) = - pace (sum of q i0) - rule v0.
At rest with nothing kept that comes to C: i = 0, L: v = 0, the laws for s = 0.
"""

from networktime.equations import equation_rows, solve, unknowns_of
from networktime.kinds import AMPLIFIER, CAPACITOR, COIL, DIODE, MUTUAL, RESISTOR, SWITCH, TRANSFORMER
from networktime.kinds import follows_current, has_four_nodes, has_wave, is_kept, tells_current
from networktime.ratio import NOTHING, ONE, above, minus, negative, plus, product
from networktime.waves import value_at


class Moment:
    """A solution of the laws, unknown by unknown, and the row of states it belongs to."""

    def __init__(self, states, found):
        self.states = states
        self.found = found


class Laws:
    """The laws of a network for one rule and pace. What they come to for a row of states is worked out once."""

    def __init__(self, network, rule, pace):
        self.network = network
        self.rule = rule
        self.pace = pace
        self.ready = {}

    def solved(self, states):
        """The equations solved for a row of states, None if they are not regular."""
        if states not in self.ready:
            self.ready[states] = solve(equation_rows(law_rows(self.network, self.pace, states)))
        return self.ready[states]

    def first_moment(self, rows, time, kept):
        """The moment by the first row of states that is regular and holds; None if there is none."""
        for states in rows:
            solved = self.solved(states)
            if solved is None:
                continue
            found = unknowns_of(solved, right_sides(self, states, time, kept))
            if diodes_hold(self.network, states, found):
                return Moment(states, found)
        return None


def all_states(count):
    """The rows of states of so many diodes, 0 off and 1 on: off before on, the first diode counting most."""
    rows = [()]
    for k in range(count):
        rows = [(0,) + row for row in rows] + [(1,) + row for row in rows]
    return rows


def node_voltage(found, node):
    return NOTHING if node == 0 else found[node - 1]


def voltage_of(network, found, k):
    """The voltage of element k, of T the first pair's."""
    part = network.parts[k]
    return minus(node_voltage(found, part.a), node_voltage(found, part.b))


def current_of(network, found, k):
    """The current of element k, of T the first pair's. M has none, and must not be asked for."""
    return found[network.spots[k]]


def diodes_hold(network, states, found):
    for k, state in zip(network.diodes, states):
        if state == 1 and above(NOTHING, current_of(network, found, k)):
            return False
        if state == 0 and above(voltage_of(network, found, k), network.parts[k].q):
            return False
    return True


def right_sides(laws, states, time, kept):
    """What the laws come to behind the unknowns; kept has a voltage and a current for each C and L."""
    network = laws.network
    right = empty_row(network)
    for k, part in enumerate(network.parts):
        if has_wave(part.kind):
            right[network.spots[k]] = value_at(network.waves[k], time)
        elif is_kept(part.kind):
            right[network.spots[k]] = negative(remembered(laws, k, kept))
    for k, state in zip(network.diodes, states):
        if state == 1:
            right[network.spots[k]] = network.parts[k].q
    return right


def remembered(laws, k, kept):
    """What the kept values bring into the law of the C or L numbered k."""
    part = laws.network.parts[k]
    if part.kind == CAPACITOR:
        total = product(part.q, kept[k][0])
        other = kept[k][1]
    else:
        total = NOTHING
        for x, q in laws.network.links[k]:
            total = plus(total, product(q, kept[x][1]))
        other = kept[k][0]
    return plus(product(laws.pace, total), product((laws.rule, 1), other))


def law_rows(network, pace, states):
    """For each law a row of fractions, one for each unknown."""
    rows = [empty_row(network) for law in range(network.size)]
    for k, part in enumerate(network.parts):
        if part.kind == MUTUAL:
            continue
        spot = network.spots[k]
        add_current(rows, spot, part.a, part.b)
        add_told_side(rows[spot], network, k, states)
        add_telling_side(rows[spot], network, k, pace)
        if part.kind == TRANSFORMER:
            add_current(rows, spot + 1, part.c, part.d)
            add(rows[spot + 1], spot + 1, ONE)
            add(rows[spot + 1], spot, part.q)
    return rows


def empty_row(network):
    return [NOTHING for k in range(network.size)]


def add(row, spot, amount):
    row[spot] = plus(row[spot], amount)


def add_voltage(row, a, b, amount):
    """Adds a's voltage less b's, so many times."""
    if a != 0:
        add(row, a - 1, amount)
    if b != 0:
        add(row, b - 1, negative(amount))


def add_current(rows, spot, a, b):
    """Adds the current at the spot to the laws of the nodes it goes out of and into."""
    if a != 0:
        add(rows[a - 1], spot, ONE)
    if b != 0:
        add(rows[b - 1], spot, negative(ONE))


def add_told_side(row, network, k, states):
    """Adds what the element's law tells, its voltage or its current: O's tells neither."""
    part = network.parts[k]
    if part.kind == AMPLIFIER:
        return
    if tells_current(part.kind) or is_cut(network, k, states):
        add(row, network.spots[k], ONE)
    else:
        add_voltage(row, part.a, part.b, ONE)


def is_cut(network, k, states):
    """Whether element k is a switch or a diode that lets no current through."""
    part = network.parts[k]
    if part.kind == DIODE:
        return states[network.diodes.index(k)] == 0
    return part.kind == SWITCH and part.q[0] == 0


def add_telling_side(row, network, k, pace):
    """Takes off what the element's law tells it by."""
    part = network.parts[k]
    less = negative(part.q)
    if part.kind == AMPLIFIER:
        add_voltage(row, part.c, part.d, ONE)
    elif has_four_nodes(part.kind):
        add_voltage(row, part.c, part.d, less)
    elif part.kind == RESISTOR:
        add(row, network.spots[k], less)
    elif part.kind == CAPACITOR:
        add_voltage(row, part.a, part.b, product(pace, less))
    elif part.kind == COIL:
        for x, q in network.links[k]:
            add(row, network.spots[x], negative(product(pace, q)))
    elif follows_current(part.kind):
        add(row, network.spots[part.c], less)
