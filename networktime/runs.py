"""Calls handed over as one list of whole numbers, and their answers as another."""

from networktime.simulator import Simulator

BEGIN = 1
START = 2
STEP = 3
NOW = 4
IS_ON = 5
KEPT = 6


class UnknownCall(ValueError):
    """A number that no call has."""


class Reader:
    """Takes whole numbers from a list, one behind another, and leaves the list as it is."""

    def __init__(self, numbers):
        self.numbers = numbers
        self.at = 0

    def ended(self):
        return self.at >= len(self.numbers)

    def take(self):
        self.at += 1
        return self.numbers[self.at - 1]

    def take_row(self):
        """A row that has how many numbers it is before it, as a list of its own."""
        length = self.take()
        self.at += length
        return self.numbers[self.at - length:self.at]


def answers(calls):
    """The answers to the calls on one new object: for each how many numbers, then these."""
    simulator = Simulator()
    reader = Reader(calls)
    told = []
    while not reader.ended():
        answer = answer_next(simulator, reader)
        told.append(len(answer))
        told.extend(answer)
    return told


def answer_next(simulator, reader):
    call = reader.take()
    if call == BEGIN:
        net = reader.take_row()
        waves = reader.take_row()
        return simulator.begin(net, waves)
    if call == START:
        rule = reader.take()
        hn = reader.take()
        hd = reader.take()
        bits = reader.take()
        return simulator.start(rule, hn, hd, bits)
    if call == STEP:
        return simulator.step(reader.take())
    if call == NOW:
        what = reader.take()
        return simulator.now(what, reader.take())
    if call == IS_ON:
        return simulator.is_on(reader.take())
    if call == KEPT:
        return simulator.kept(reader.take())
    raise UnknownCall(f"no call has the number {call}")
