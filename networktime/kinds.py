"""The kinds of elements, by the numbers they are handed over as."""

RESISTOR = 0
CAPACITOR = 1
COIL = 2
MUTUAL = 3
VOLTAGE_SOURCE = 4
CURRENT_SOURCE = 5
VOLTAGE_BY_VOLTAGE = 6
CURRENT_BY_VOLTAGE = 7
VOLTAGE_BY_CURRENT = 8
CURRENT_BY_CURRENT = 9
TRANSFORMER = 10
AMPLIFIER = 11
SWITCH = 12
DIODE = 13


def has_wave(kind):
    return kind in (VOLTAGE_SOURCE, CURRENT_SOURCE)


def has_four_nodes(kind):
    return kind in (VOLTAGE_BY_VOLTAGE, CURRENT_BY_VOLTAGE, TRANSFORMER, AMPLIFIER)


def follows_current(kind):
    return kind in (VOLTAGE_BY_CURRENT, CURRENT_BY_CURRENT)


def is_kept(kind):
    return kind in (CAPACITOR, COIL)


def tells_current(kind):
    """Whether the law of the kind tells i by other things; S and D may tell i or v."""
    return kind in (CAPACITOR, CURRENT_SOURCE, CURRENT_BY_VOLTAGE, CURRENT_BY_CURRENT)


def currents_of(kind):
    """How many currents an element of the kind has of its own: as many as it has laws."""
    if kind == MUTUAL:
        return 0
    return 2 if kind == TRANSFORMER else 1
