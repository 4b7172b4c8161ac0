"""The calls: each gives back a list of whole numbers, 0 and what is answered, or a refusal."""

from wirequotients.driving import driven_setting, is_source
from wirequotients.faults import first_fault
from wirequotients.frequencies import is_frequency_row, told_value
from wirequotients.laws import law_rows
from wirequotients.operating import operating_point
from wirequotients.ports import put_into, told_at_nodes, told_y, told_z
from wirequotients.quantities import is_linear_quantity, quantity_top
from wirequotients.quotients import told_quotient
from wirequotients.reading import is_network_row, read_network
from wirequotients.solving import solved
from wirequotients.zeros import count_zeros

NODES_OF_TWO_PORTS = 4
MOST_NODES_COMPARED = 3


class Asked:
    """What a call is refused with, [] if it isn't; then the quotient that is asked for, top over bottom."""

    def __init__(self, refusal, top, bottom):
        self.refusal = refusal
        self.top = top
        self.bottom = bottom


def trans(source, what, k, net):
    """The quantity what of node or element k, driven by the element source, as a quotient."""
    asked = driven_quantity(source, what, k, net)
    if asked.refusal:
        return asked.refusal
    return [0] + told_quotient(asked.top, asked.bottom)


def value(source, what, k, net, s):
    """The quantity what of node or element k, driven by the element source, at one complex s."""
    if not is_frequency_row(s):
        return [-1]
    asked = driven_quantity(source, what, k, net)
    if asked.refusal:
        return asked.refusal
    told = told_value(asked.top, asked.bottom, s)
    return [-5] if told is None else [0] + told


def modes(net):
    """How many zeros the laws' determinant has: all, left of the axis, on it, right of it."""
    refusal = refusal_of_net(net)
    if refusal:
        return refusal
    network = read_network(net)
    point = operating_point(network)
    if point is None:
        return [-4]
    determinant = solved(law_rows(driven_setting(network, point.states, None))).determinant
    zeros = count_zeros(determinant)
    return [0, len(determinant) - 1, zeros.left, zeros.axis, zeros.right]


def port(kind, row, col, net, nodes):
    """z (kind 0) or y (kind 1) of the two ports, nodes' first pair and its second, as a quotient."""
    if max(kind, row, col) > 1 or len(nodes) != NODES_OF_TWO_PORTS:
        return [-1]
    refusal = refusal_of_net(net)
    if refusal:
        return refusal
    network = read_network(net)
    if max(nodes) > network.last_node:
        return [-3]
    point = operating_point(network)
    if point is None:
        return [-4]
    ports = [(nodes[0], nodes[1]), (nodes[2], nodes[3])]
    if kind == 0:
        return [0] + told_z(put_into(network, point.states, ports[col]), ports[row])
    told = told_y(network, point.states, ports, row, col)
    return [-5] if told is None else [0] + told


def same(net_one, net_two, nodes_one, nodes_two):
    """1 if the two networks are the same at these nodes of each, in order, else 0."""
    if len(nodes_one) != len(nodes_two) or not 1 <= len(nodes_one) <= MOST_NODES_COMPARED:
        return [-1]
    refusal = refusal_of_net(net_one) or refusal_of_net(net_two)
    if refusal:
        return refusal
    one = read_network(net_one)
    two = read_network(net_two)
    if max(nodes_one) > one.last_node or max(nodes_two) > two.last_node:
        return [-3]
    point_one = operating_point(one)
    point_two = operating_point(two)
    if point_one is None or point_two is None:
        return [-4]
    alike = told_at_nodes(one, point_one, nodes_one) == told_at_nodes(two, point_two, nodes_two)
    return [0, 1 if alike else 0]


def driven_quantity(source, what, k, net):
    """The quantity over the laws' determinant, not shortened: where the laws aren't regular the bottom is 0."""
    refusal = refusal_of_net(net)
    if refusal:
        return Asked(refusal, [], [])
    network = read_network(net)
    if not is_source(network, source) or not is_linear_quantity(network, what, k):
        return Asked([-3], [], [])
    point = operating_point(network)
    if point is None:
        return Asked([-4], [], [])
    setting = driven_setting(network, point.states, source)
    # Regular at s = 0, the operating point, the laws' determinant is not 0: there is a solution.
    solution = solved(law_rows(setting))
    return Asked([], quantity_top(setting, solution, what, k), solution.determinant)


def refusal_of_net(net):
    """The refusal of a row that is no network, or of a network with something wrong; [] if it may be asked of."""
    if not is_network_row(net):
        return [-1]
    fault = first_fault(read_network(net))
    return [-2] + fault if fault else []
