"""Waves: the row they are handed over as, and their value at a time."""

from networktime.kinds import has_wave
from networktime.network import is_number
from networktime.ratio import NOTHING, above, minus, plus, product, quotient

POINTS_MOST = 8
HEAD_LENGTH = 3
POINT_LENGTH = 4


class Wave:
    """Points by their moments and levels, and a period, 0 for none; how many numbers it took in its row."""

    def __init__(self, period, moments, levels, length):
        self.period = period
        self.moments = moments
        self.levels = levels
        self.length = length


def waves_of(parts, row):
    """For each element its wave, None if its kind has none; up to the first whose wave is wrong."""
    waves = []
    at = 0
    for part in parts:
        if not has_wave(part.kind):
            waves.append(None)
            continue
        wave = wave_at(row, at)
        if wave is None:
            return waves
        waves.append(wave)
        at += wave.length
    return waves


def length_of(waves):
    """How many numbers of the row the waves took."""
    return sum([wave.length for wave in waves if wave is not None])


def wave_at(row, at):
    """The wave that begins at this place of the row; None if none is there, or it is not one."""
    if at >= len(row) or row[at] < 1 or row[at] > POINTS_MOST:
        return None
    length = HEAD_LENGTH + POINT_LENGTH * row[at]
    if at + length > len(row):
        return None
    numbers = [(row[k], row[k + 1]) for k in range(at + 1, at + length, 2)]
    for x in numbers:
        if not is_number(x[0], x[1]):
            return None
    period = numbers[0]
    moments = [numbers[k] for k in range(1, len(numbers), 2)]
    levels = [numbers[k] for k in range(2, len(numbers), 2)]
    if not rise_from_zero(moments) or not may_be_period(period, moments[-1]):
        return None
    return Wave(period, moments, levels, length)


def rise_from_zero(moments):
    if moments[0][0] != 0:
        return False
    for k in range(1, len(moments)):
        if not above(moments[k], moments[k - 1]):
            return False
    return True


def may_be_period(period, last):
    return period[0] == 0 or above(period, last)


def value_at(wave, time):
    """The wave's value at a time that is not below 0."""
    moment = moment_in_period(wave.period, time)
    for k in range(1, len(wave.moments)):
        if above(wave.moments[k], moment):
            return value_between(wave, k, moment)
    return wave.levels[-1]


def moment_in_period(period, time):
    if not above(period, NOTHING):
        return time
    periods = quotient(time, period)
    return minus(time, product((periods[0] // periods[1], 1), period))


def value_between(wave, k, moment):
    """The value on the line that ends in point k."""
    run = minus(wave.moments[k], wave.moments[k - 1])
    rise = minus(wave.levels[k], wave.levels[k - 1])
    gone = minus(moment, wave.moments[k - 1])
    return plus(wave.levels[k - 1], quotient(product(rise, gone), run))
