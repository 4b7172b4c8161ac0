"""The calls: each gives back a list of whole numbers, 0 and what is answered, or a refusal."""

from wirequotients.faults import first_fault
from wirequotients.kinds import CURRENT_SOURCE, VOLTAGE_SOURCE
from wirequotients.laws import Setting, law_rows
from wirequotients.operating import operating_states
from wirequotients.quantities import is_linear_quantity, quantity_top
from wirequotients.quotients import told_quotient
from wirequotients.reading import is_network_row, read_network
from wirequotients.solving import solved


def trans(source, what, k, net):
    """The quantity what of node or element k, driven by the element source, as a quotient."""
    refusal = refusal_of_net(net)
    if refusal:
        return refusal
    network = read_network(net)
    if not is_source(network, source) or not is_linear_quantity(network, what, k):
        return [-3]
    states = operating_states(network)
    if states is None:
        return [-4]
    setting = Setting(network, [0, 1], states, driven_by(network, source))
    # Regular at s = 0, the operating point, the laws' determinant is not 0: there is a solution.
    solution = solved(law_rows(setting))
    return [0] + told_quotient(quantity_top(setting, solution, what, k), solution.determinant)


def refusal_of_net(net):
    """The refusal of a row that is no network, or of a network with something wrong; [] if it may be asked of."""
    if not is_network_row(net):
        return [-1]
    fault = first_fault(read_network(net))
    return [-2] + fault if fault else []


def is_source(network, k):
    return k < len(network.parts) and network.parts[k].kind in (VOLTAGE_SOURCE, CURRENT_SOURCE)


def driven_by(network, source):
    """What each element is set to: the source to 1, all else to 0."""
    return [(1, 1) if k == source else (0, 1) for k in range(len(network.parts))]
