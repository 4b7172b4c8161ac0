"""What is wrong with a network: the first element that has something, and 1, 2 or 3."""

from wirequotients.kinds import AMPLIFIER, CAPACITOR, COIL, COUPLING, CURRENT_BY_CURRENT, CURRENT_BY_VOLTAGE, DIODE
from wirequotients.kinds import RESISTOR, SWITCH, TRANSFORMER, VOLTAGE_BY_CURRENT, VOLTAGE_BY_VOLTAGE

NO_FAULT = 0
WRONG_NODE = 1
WRONG_NUMBER = 2
WRONG_REFERENCE = 3


def first_fault(network):
    """The faulty element's number and its fault, or [] where nothing is wrong."""
    for k in range(len(network.parts)):
        fault = fault_of(network, k)
        if fault != NO_FAULT:
            return [k, fault]
    return []


def fault_of(network, k):
    part = network.parts[k]
    if any([node > network.last_node for node in nodes_of(part)]):
        return WRONG_NODE
    if not may_have_number(part):
        return WRONG_NUMBER
    if not may_follow(network.parts, k):
        return WRONG_REFERENCE
    if part.kind == COUPLING:
        return coupling_fault(network.parts, k)
    return NO_FAULT


def nodes_of(part):
    if part.kind == COUPLING:
        return []
    if part.kind in (VOLTAGE_BY_VOLTAGE, CURRENT_BY_VOLTAGE, TRANSFORMER, AMPLIFIER):
        return [part.a, part.b, part.c, part.d]
    return [part.a, part.b]


def may_have_number(part):
    if part.kind in (RESISTOR, CAPACITOR, COIL):
        return part.top > 0
    if part.kind == TRANSFORMER:
        return part.top != 0
    if part.kind == AMPLIFIER:
        return part.top == 0
    if part.kind == SWITCH:
        return part.top == 0 or part.top == part.bottom
    if part.kind == DIODE:
        return part.top >= 0
    return True


def may_follow(parts, k):
    """Whether element k, if it follows another's current, follows one before it that has a current."""
    if parts[k].kind not in (VOLTAGE_BY_CURRENT, CURRENT_BY_CURRENT):
        return True
    followed = parts[k].c
    return followed < k and parts[followed].kind != COUPLING


def coupling_fault(parts, k):
    one = parts[k].a
    other = parts[k].b
    if one == other or not is_coil_before(parts, one, k) or not is_coil_before(parts, other, k):
        return WRONG_REFERENCE
    if any([couples(part, one, other) for part in parts[:k]]):
        return WRONG_REFERENCE
    if is_coupled_too_much(parts[k], parts[one], parts[other]):
        return WRONG_NUMBER
    return NO_FAULT


def is_coil_before(parts, place, k):
    return place < k and parts[place].kind == COIL


def couples(part, one, other):
    if part.kind != COUPLING:
        return False
    return (part.a, part.b) in ((one, other), (other, one))


def is_coupled_too_much(coupling, one, other):
    """Whether the coupling's number squared is above the product of the coils' numbers."""
    squared = coupling.top * coupling.top * one.bottom * other.bottom
    return squared > one.top * other.top * coupling.bottom * coupling.bottom
