"""Networks: the row they are handed over as, and what the laws and the runs ask of them."""

from networktime.kinds import COIL, DIODE, MUTUAL, currents_of

NODES_MOST = 8
PARTS_MOST = 10
DIODES_MOST = 3
PART_LENGTH = 7
PLACE_MOST = 63
NUMBER_MOST = 1000000


class Part:
    """An element: its kind, its four places (nodes, or elements it refers to), its number q."""

    def __init__(self, row):
        self.kind = row[0]
        self.a = row[1]
        self.b = row[2]
        self.c = row[3]
        self.d = row[4]
        self.q = (row[5], row[6])


class Network:
    """A network without a fault, and where each element's current stands among the unknowns.

    Law k and unknown k go together: first the nodes' but 0's, then the elements' in their order.
    """

    def __init__(self, nodes, parts, waves):
        self.nodes = nodes
        self.parts = parts
        self.waves = waves
        self.spots = []
        self.size = nodes
        for part in parts:
            self.spots.append(self.size)
            self.size += currents_of(part.kind)
        self.diodes = [k for k in range(len(parts)) if parts[k].kind == DIODE]
        self.links = [links_of(parts, k) for k in range(len(parts))]

    def kind_of(self, k):
        """The kind of element k, None if there is no such element."""
        return self.parts[k].kind if k < len(self.parts) else None


def links_of(parts, k):
    """The coils whose currents make up coil k's voltage, itself first, each with its number."""
    if parts[k].kind != COIL:
        return []
    links = [(k, parts[k].q)]
    for part in parts:
        if part.kind == MUTUAL and part.a == k:
            links.append((part.b, part.q))
        elif part.kind == MUTUAL and part.b == k:
            links.append((part.a, part.q))
    return links


def parts_of(net):
    """The elements of a row that is a network's."""
    return [Part(net[at:at + PART_LENGTH]) for at in range(1, len(net), PART_LENGTH)]


def is_network(net):
    """Whether the row is a network's, whatever may be wrong with that."""
    if len(net) % PART_LENGTH != 1 or net[0] < 1 or net[0] > NODES_MOST:
        return False
    if len(net) > 1 + PARTS_MOST * PART_LENGTH:
        return False
    diodes = 0
    for at in range(1, len(net), PART_LENGTH):
        if not is_part(net[at:at + PART_LENGTH]):
            return False
        if net[at] == DIODE:
            diodes += 1
    return diodes <= DIODES_MOST


def is_part(row):
    if row[0] < 0 or row[0] > DIODE:
        return False
    for place in row[1:5]:
        if place < 0 or place > PLACE_MOST:
            return False
    return is_number(row[5], row[6])


def is_number(top, bottom):
    """Whether two whole numbers may stand for a fraction in what is handed over."""
    return -NUMBER_MOST <= top and top <= NUMBER_MOST and 1 <= bottom and bottom <= NUMBER_MOST
