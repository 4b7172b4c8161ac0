"""The calls: each gives back a list of whole numbers, 0 and what is answered, or a refusal."""

from wirequotients.driving import driven_setting, is_source
from wirequotients.faults import first_fault
from wirequotients.frequencies import is_frequency_row, told_value
from wirequotients.laws import law_rows
from wirequotients.operating import operating_states
from wirequotients.ports import told_y, told_z
from wirequotients.quantities import is_linear_quantity, quantity_top
from wirequotients.quotients import told_quotient
from wirequotients.reading import is_network_row, read_network
from wirequotients.solving import solved
from wirequotients.zeros import count_zeros


class Asked:
    """What a call is refused with, [] if it isn't; then the quotient that is asked for, top over bottom."""

    def __init__(self, refusal, top, bottom):
        self.refusal = refusal
        self.top = top
        self.bottom = bottom


def trans(source, what, k, net):
    """The quantity what of node or element k, driven by the element source, as a quotient."""
    asked = driven_quantity(source, what, k, net)
    if asked.refusal:
        return asked.refusal
    return [0] + told_quotient(asked.top, asked.bottom)


def value(source, what, k, net, s):
    """The quantity what of node or element k, driven by the element source, at one complex s."""
    if not is_frequency_row(s):
        return [-1]
    asked = driven_quantity(source, what, k, net)
    if asked.refusal:
        return asked.refusal
    told = told_value(asked.top, asked.bottom, s)
    return [-5] if told is None else [0] + told


def modes(net):
    """How many zeros the laws' determinant has: all, left of the axis, on it, right of it."""
    refusal = refusal_of_net(net)
    if refusal:
        return refusal
    network = read_network(net)
    states = operating_states(network)
    if states is None:
        return [-4]
    determinant = solved(law_rows(driven_setting(network, states, None))).determinant
    zeros = count_zeros(determinant)
    return [0, len(determinant) - 1, zeros.left, zeros.axis, zeros.right]


def port(kind, row, col, net, nodes):
    """z (kind 0) or y (kind 1) of the two ports, nodes' first pair and its second, as a quotient."""
    if max(kind, row, col) > 1 or len(nodes) != 4:
        return [-1]
    refusal = refusal_of_net(net)
    if refusal:
        return refusal
    network = read_network(net)
    if max(nodes) > network.last_node:
        return [-3]
    states = operating_states(network)
    if states is None:
        return [-4]
    ports = [(nodes[0], nodes[1]), (nodes[2], nodes[3])]
    if kind == 0:
        return [0] + told_z(network, states, ports[row], ports[col])
    told = told_y(network, states, ports, row, col)
    return [-5] if told is None else [0] + told


def driven_quantity(source, what, k, net):
    """The quantity over the laws' determinant, not shortened: where the laws aren't regular the bottom is 0."""
    refusal = refusal_of_net(net)
    if refusal:
        return Asked(refusal, [], [])
    network = read_network(net)
    if not is_source(network, source) or not is_linear_quantity(network, what, k):
        return Asked([-3], [], [])
    states = operating_states(network)
    if states is None:
        return Asked([-4], [], [])
    setting = driven_setting(network, states, source)
    # Regular at s = 0, the operating point, the laws' determinant is not 0: there is a solution.
    solution = solved(law_rows(setting))
    return Asked([], quantity_top(setting, solution, what, k), solution.determinant)


def refusal_of_net(net):
    """The refusal of a row that is no network, or of a network with something wrong; [] if it may be asked of."""
    if not is_network_row(net):
        return [-1]
    fault = first_fault(read_network(net))
    return [-2] + fault if fault else []
