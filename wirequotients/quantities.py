"""The quantities of a network: which there are, and what a solution of the laws says of them."""

from wirequotients.kinds import COUPLING
from wirequotients.polynomials import subtracted

NODE_VOLTAGE = 0
CURRENT = 1
VOLTAGE = 2


def is_linear_quantity(network, what, k):
    """Whether the network has this quantity, and it is one of those that answer to a source in proportion."""
    if what == NODE_VOLTAGE:
        return k <= network.last_node
    if what in (CURRENT, VOLTAGE):
        return k < len(network.parts) and network.parts[k].kind != COUPLING
    return False


def quantity_top(setting, solution, what, k):
    """The quantity's top over the solution's determinant."""
    if what == NODE_VOLTAGE:
        return node_top(solution, k)
    if what == CURRENT:
        return current_top(setting, solution, k)
    return voltage_top(setting, solution, k)


def node_top(solution, node):
    return solution.tops[node - 1] if node > 0 else []


def current_top(setting, solution, k):
    return solution.tops[setting.places[k]]


def voltage_top(setting, solution, k):
    part = setting.network.parts[k]
    return difference_top(solution, part.a, part.b)


def difference_top(solution, first, second):
    """Of the first node's voltage less the second's."""
    return subtracted(node_top(solution, first), node_top(solution, second))
