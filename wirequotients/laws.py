"""The laws of a network as rows of polynomials in s.

The unknowns are the voltages of the nodes from 1 on, then the elements' currents in order (of a transformer both,
of a coupling none). A row holds the unknowns' factors in that order, then its right side. A sum of unknowns is
written as a list of terms, each an unknown's place and its factor; the place behind the last unknown's is the right
side's.
"""

from wirequotients.kinds import COUPLING, TRANSFORMER
from wirequotients.polynomials import added, constant, multiplied


class Setting:
    """What the laws are written for.

    s is a polynomial: [0, 1] for s itself, [] for 0. states tells of each element whether it is a diode that is on.
    drives holds for each element what a V, an I or a diode that is on is set to, as a pair top, bottom.
    """

    def __init__(self, network, s, states, drives):
        self.network = network
        self.s = s
        self.states = states
        self.drives = drives
        self.places = current_places(network)
        self.width = unknowns_of(network)


def currents_of(part):
    """How many currents an element has."""
    if part.kind == COUPLING:
        return 0
    return 2 if part.kind == TRANSFORMER else 1


def unknowns_of(network):
    return network.last_node + sum([currents_of(part) for part in network.parts])


def current_places(network):
    """The place of each element's (first) current among the unknowns; a coupling's is not to be used."""
    places = []
    free = network.last_node
    for part in network.parts:
        places.append(free)
        free += currents_of(part)
    return places


def row_of(terms, width):
    row = [[] for place in range(width + 1)]
    for place, factor in terms:
        row[place] = added(row[place], factor)
    return row


def node_laws(setting):
    """For each node but 0 the sum of the currents out of it."""
    sums = [[] for node in range(setting.network.last_node + 1)]
    for part, place in zip(setting.network.parts, setting.places):
        if part.kind == COUPLING:
            continue
        sums[part.a].append((place, [1]))
        sums[part.b].append((place, [-1]))
        if part.kind == TRANSFORMER:
            sums[part.c].append((place + 1, [1]))
            sums[part.d].append((place + 1, [-1]))
    return sums[1:]


def voltage_between(first, second):
    """first's voltage less second's; node 0's is 0 and no unknown."""
    terms = []
    if first > 0:
        terms.append((first - 1, [1]))
    if second > 0:
        terms.append((second - 1, [-1]))
    return terms


def voltage_of(part):
    return voltage_between(part.a, part.b)


def controlling_voltage(part):
    return voltage_between(part.c, part.d)


def current_of(setting, k):
    return [(setting.places[k], [1])]


def scaled(terms, polynomial):
    return [(place, multiplied(factor, polynomial)) for place, factor in terms]


def times_number(part, left, right):
    """The law that left is the element's number times right, free of fractions."""
    return scaled(left, constant(part.bottom)) + scaled(right, constant(-part.top))


def set_to_drive(setting, k, terms):
    """The law that the terms come to what element k is set to, free of fractions."""
    drive = setting.drives[k]
    return scaled(terms, constant(drive[1])) + [(setting.width, constant(drive[0]))]


def resistor_laws(setting, k):
    part = setting.network.parts[k]
    return [times_number(part, voltage_of(part), current_of(setting, k))]


def capacitor_laws(setting, k):
    part = setting.network.parts[k]
    return [times_number(part, current_of(setting, k), scaled(voltage_of(part), setting.s))]


def coil_laws(setting, k):
    shares = coil_shares(setting.network.parts, k)
    common = 1
    for share in shares:
        common *= share[2]
    law = scaled(voltage_of(setting.network.parts[k]), constant(common))
    for coil, top, bottom in shares:
        law.extend(scaled(scaled(current_of(setting, coil), setting.s), constant(-top * (common // bottom))))
    return [law]


def coil_shares(parts, k):
    """Whose currents coil k's voltage comes from, each with its number: its own and those coupled to it."""
    shares = [(k, parts[k].top, parts[k].bottom)]
    for part in parts:
        if part.kind == COUPLING and k in (part.a, part.b):
            shares.append((part.a + part.b - k, part.top, part.bottom))
    return shares


def coupling_laws(setting, k):
    """None of its own: it stands in the laws of its coils."""
    return []


def voltage_source_laws(setting, k):
    return [set_to_drive(setting, k, voltage_of(setting.network.parts[k]))]


def current_source_laws(setting, k):
    return [set_to_drive(setting, k, current_of(setting, k))]


def voltage_by_voltage_laws(setting, k):
    part = setting.network.parts[k]
    return [times_number(part, voltage_of(part), controlling_voltage(part))]


def current_by_voltage_laws(setting, k):
    part = setting.network.parts[k]
    return [times_number(part, current_of(setting, k), controlling_voltage(part))]


def voltage_by_current_laws(setting, k):
    part = setting.network.parts[k]
    return [times_number(part, voltage_of(part), current_of(setting, part.c))]


def current_by_current_laws(setting, k):
    part = setting.network.parts[k]
    return [times_number(part, current_of(setting, k), current_of(setting, part.c))]


def transformer_laws(setting, k):
    part = setting.network.parts[k]
    first = current_of(setting, k)
    second = [(setting.places[k] + 1, [1])]
    return [
        times_number(part, voltage_of(part), controlling_voltage(part)),
        times_number(part, second, scaled(first, [-1])),
    ]


def amplifier_laws(setting, k):
    return [controlling_voltage(setting.network.parts[k])]


def switch_laws(setting, k):
    part = setting.network.parts[k]
    return [current_of(setting, k) if part.top == 0 else voltage_of(part)]


def diode_laws(setting, k):
    if setting.states[k]:
        return voltage_source_laws(setting, k)
    return [current_of(setting, k)]


# One for each kind, in the order of their numbers.
LAWS_OF_KIND = (
    resistor_laws,
    capacitor_laws,
    coil_laws,
    coupling_laws,
    voltage_source_laws,
    current_source_laws,
    voltage_by_voltage_laws,
    current_by_voltage_laws,
    voltage_by_current_laws,
    current_by_current_laws,
    transformer_laws,
    amplifier_laws,
    switch_laws,
    diode_laws,
)


def law_rows(setting):
    """One row for each node but 0, then the elements' laws."""
    laws = node_laws(setting)
    for k, part in enumerate(setting.network.parts):
        laws.extend(LAWS_OF_KIND[part.kind](setting, k))
    return [row_of(law, setting.width) for law in laws]
