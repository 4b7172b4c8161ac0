"""What a network is like from outside, at pairs of its nodes: with currents put in, or held by voltages."""

from wirequotients.driving import driven_setting
from wirequotients.kinds import CURRENT_SOURCE, VOLTAGE_SOURCE
from wirequotients.laws import law_rows
from wirequotients.operating import told_voltage
from wirequotients.polynomials import negated
from wirequotients.quantities import current_top, difference_top
from wirequotients.quotients import told_quotient
from wirequotients.reading import Network, Part
from wirequotients.solving import solved


def put_into(network, states, into):
    """The laws' solution over all s with a current of 1 more put into a pair of nodes, from its second to its first."""
    wider = with_sources(network, CURRENT_SOURCE, [(into[1], into[0])])
    # What is put in adds one unknown that is set to 1: the laws stay regular wherever they were.
    return solved(law_rows(driven_setting(wider, states + [False], len(network.parts))))


def told_z(solution, across):
    """The voltage across a pair of nodes, with what was put in, as a quotient is told."""
    return told_quotient(difference_top(solution, across[0], across[1]), solution.determinant)


def told_y(network, states, ports, row, col):
    """What flows into port row with port col held at 1 and the other at 0; None if the laws are regular for no s."""
    first = len(network.parts)
    wider = with_sources(network, VOLTAGE_SOURCE, ports)
    setting = driven_setting(wider, states + [False, False], first + col)
    solution = solved(law_rows(setting))
    if solution is None:
        return None
    return told_quotient(negated(current_top(setting, solution, first + row)), solution.determinant)


def with_sources(network, kind, pairs):
    """The network with a source more behind its elements for each pair, from the pair's first node to its second."""
    more = [Part([kind, pair[0], pair[1], 0, 0, 0, 1]) for pair in pairs]
    return Network(network.last_node, network.parts + more)


def told_at_nodes(network, point, nodes):
    """All by which networks are compared at nodes: the voltages there at the operating point, and every z."""
    told = [told_voltage(point, node) for node in nodes]
    for into in nodes:
        solution = put_into(network, point.states, (into, 0))
        told.extend([told_z(solution, (across, 0)) for across in nodes])
    return told
