"""The operating point of a network."""

from wirequotients.kinds import DIODE
from wirequotients.laws import Setting, law_rows
from wirequotients.polynomials import constant_of, lowest_terms
from wirequotients.quantities import current_top, node_top, voltage_top
from wirequotients.solving import solved


class OperatingPoint:
    """Of each element whether it is a diode that is on there, and the laws' solution at s = 0, all as it stands."""

    def __init__(self, states, solution):
        self.states = states
        self.solution = solution


def operating_point(network):
    """The operating point, or None if there is none."""
    own = [(part.top, part.bottom) for part in network.parts]
    for states in rows_of_states(network.parts):
        setting = Setting(network, [], states, own)
        solution = solved(law_rows(setting))
        if solution is not None and all_diodes_agree(setting, solution):
            return OperatingPoint(states, solution)
    return None


def told_voltage(point, node):
    """A node's voltage at the operating point, as a fraction is told."""
    return lowest_terms(constant_of(node_top(point.solution, node)), constant_of(point.solution.determinant))


def rows_of_states(parts):
    """Every row of states, off before on, the first diode counting most."""
    rows = [[]]
    for part in parts:
        longer = []
        for row in rows:
            longer.append(row + [False])
            if part.kind == DIODE:
                longer.append(row + [True])
        rows = longer
    return rows


def all_diodes_agree(setting, solution):
    parts = setting.network.parts
    return all([diode_agrees(setting, solution, k) for k in range(len(parts)) if parts[k].kind == DIODE])


def diode_agrees(setting, solution, k):
    """Whether diode k's current or voltage is such as its state asks."""
    part = setting.network.parts[k]
    determinant = constant_of(solution.determinant)
    # Both sides are taken times the determinant's square, as its sign is left open.
    if setting.states[k]:
        return constant_of(current_top(setting, solution, k)) * determinant >= 0
    voltage = constant_of(voltage_top(setting, solution, k))
    return voltage * determinant * part.bottom <= part.top * determinant * determinant
