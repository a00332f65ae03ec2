"""The quantities of a moment: voltages of nodes, currents and voltages of elements, and these multiplied."""

from networktime.kinds import MUTUAL
from networktime.laws import current_of, node_voltage, voltage_of
from networktime.ratio import product

NODE_VOLTAGE = 0
CURRENT = 1
VOLTAGE = 2
POWER = 3


def quantity(network, found, what, k):
    """The quantity numbered what of node or element k; None if there is none."""
    if what == NODE_VOLTAGE:
        return node_voltage(found, k) if k <= network.nodes else None
    if what > POWER or network.kind_of(k) in (None, MUTUAL):
        return None
    if what == CURRENT:
        return current_of(network, found, k)
    if what == VOLTAGE:
        return voltage_of(network, found, k)
    return product(voltage_of(network, found, k), current_of(network, found, k))
