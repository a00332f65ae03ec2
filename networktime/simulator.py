"""The object that the calls are made on, and its run."""

from networktime.faults import fault_of
from networktime.kinds import DIODE, is_kept
from networktime.laws import Laws, all_states, current_of, voltage_of
from networktime.network import NUMBER_MOST, Network, is_network, parts_of
from networktime.quantities import quantity
from networktime.ratio import NOTHING, lowest, power_of_two, quotient, rounded
from networktime.waves import length_of, waves_of

RULE_MOST = 1
BITS_MOST = 64
STEPS_MOST = 100
TIME = 4


class Run:
    """A run: how many steps it has made, its last moment, and what is kept of each C and L."""

    def __init__(self, network, rule, width, bits, moment):
        self.network = network
        self.width = width
        self.laws = Laws(network, rule, quotient((rule + 1, 1), width))
        self.rows = all_states(len(network.diodes))
        self.fineness = power_of_two(bits)
        self.made = 0
        self.moment = moment
        self.memory = kept_of(network, moment, self.fineness)

    def time_after(self, steps):
        return (steps * self.width[0], self.width[1])

    def advance(self):
        """Makes a step; answers whether it could be made."""
        time = self.time_after(self.made + 1)
        moment = self.laws.first_moment([self.moment.states] + self.rows, time, self.memory)
        if moment is None:
            return False
        self.made += 1
        self.moment = moment
        self.memory = kept_of(self.network, moment, self.fineness)
        return True


class Simulator:
    """What the calls are made on: at first without a network. Each call gives back the numbers it answers."""

    def __init__(self):
        self.network = None
        self.run = None

    def begin(self, net, waves):
        if not is_network(net):
            return [-1]
        parts = parts_of(net)
        fault = fault_of(net[0], parts)
        if len(fault) > 0:
            return [-2] + fault
        found = waves_of(parts, waves)
        if len(found) < len(parts) or length_of(found) < len(waves):
            return [-3, len(found)]
        self.network = Network(net[0], parts, found)
        self.run = None
        return [0]

    def start(self, rule, hn, hd, bits):
        if self.network is None:
            return [-8]
        if rule > RULE_MOST or bits > BITS_MOST or not is_width(hn, hd):
            return [-1]
        moment = operating_point(self.network)
        if moment is None:
            return [-4]
        self.run = Run(self.network, rule, (hn, hd), bits, moment)
        return [0]

    def step(self, n):
        if self.run is None:
            return [-8]
        if n > STEPS_MOST:
            return [-1]
        for made in range(n):
            if not self.run.advance():
                return [0, made]
        return [0, n]

    def now(self, what, k):
        if self.run is None:
            return [-8]
        if what == TIME:
            told = self.run.time_after(self.run.made)
        else:
            told = quantity(self.network, self.run.moment.found, what, k)
        if told is None:
            return [-3]
        return [0] + list(lowest(told))

    def is_on(self, k):
        if self.run is None:
            return [-8]
        if self.network.kind_of(k) != DIODE:
            return [-3]
        return [0, self.run.moment.states[self.network.diodes.index(k)]]

    def kept(self, k):
        if self.run is None:
            return [-8]
        if not is_kept(self.network.kind_of(k)):
            return [-3]
        told = [0]
        for value in self.run.memory[k]:
            told.extend(lowest(value))
        return told


def is_width(hn, hd):
    return 1 <= hn and hn <= NUMBER_MOST and 1 <= hd and hd <= NUMBER_MOST


def operating_point(network):
    """The moment a run begins with, None if there is none."""
    nothing = [(NOTHING, NOTHING) for part in network.parts]
    return Laws(network, 0, NOTHING).first_moment(all_states(len(network.diodes)), NOTHING, nothing)


def kept_of(network, moment, fineness):
    """Of each C and L the voltage and the current, rounded; None of the other elements."""
    kept = []
    for k, part in enumerate(network.parts):
        if is_kept(part.kind):
            voltage = voltage_of(network, moment.found, k)
            current = current_of(network, moment.found, k)
            kept.append((rounded(voltage, fineness), rounded(current, fineness)))
        else:
            kept.append(None)
    return kept
