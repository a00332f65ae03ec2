"""What is wrong with a network whose row has the right form."""

from networktime.kinds import AMPLIFIER, CAPACITOR, COIL, DIODE, MUTUAL, RESISTOR, SWITCH, TRANSFORMER
from networktime.kinds import follows_current, has_four_nodes
from networktime.ratio import above, product

WRONG_NODE = 1
WRONG_NUMBER = 2
WRONG_REFERENCE = 3


def fault_of(nodes, parts):
    """The first element with a fault and the fault; nothing, if there is none."""
    for k in range(len(parts)):
        fault = part_fault(nodes, parts, k)
        if fault != 0:
            return [k, fault]
    return []


def part_fault(nodes, parts, k):
    """What is wrong with element k, 0 if nothing is."""
    part = parts[k]
    if max(nodes_of(part), default=0) > nodes:
        return WRONG_NODE
    if not may_have_number(part):
        return WRONG_NUMBER
    if not refers_rightly(parts, k):
        return WRONG_REFERENCE
    # The coils' numbers are known only once the references are right.
    if part.kind == MUTUAL and above(product(part.q, part.q), product(parts[part.a].q, parts[part.b].q)):
        return WRONG_NUMBER
    return 0


def nodes_of(part):
    if part.kind == MUTUAL:
        return []
    if has_four_nodes(part.kind):
        return [part.a, part.b, part.c, part.d]
    return [part.a, part.b]


def may_have_number(part):
    top = part.q[0]
    if part.kind in (RESISTOR, CAPACITOR, COIL):
        return top > 0
    if part.kind == TRANSFORMER:
        return top != 0
    if part.kind == AMPLIFIER:
        return top == 0
    if part.kind == SWITCH:
        return top == 0 or top == part.q[1]
    if part.kind == DIODE:
        return top >= 0
    return True


def refers_rightly(parts, k):
    part = parts[k]
    if follows_current(part.kind):
        return part.c < k and parts[part.c].kind != MUTUAL
    if part.kind == MUTUAL:
        return is_coil_before(parts, part.a, k) and is_coil_before(parts, part.b, k) and is_new_pair(parts, k)
    return True


def is_coil_before(parts, x, k):
    return x < k and parts[x].kind == COIL


def is_new_pair(parts, k):
    """Whether M k joins two different coils that no M before it joins, either way round."""
    part = parts[k]
    if part.a == part.b:
        return False
    for other in parts[:k]:
        if other.kind == MUTUAL and (other.a, other.b) in ((part.a, part.b), (part.b, part.a)):
            return False
    return True
