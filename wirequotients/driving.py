"""A network driven by one of its sources, over all s."""

from wirequotients.kinds import CURRENT_SOURCE, VOLTAGE_SOURCE
from wirequotients.laws import Setting


def is_source(network, k):
    return k < len(network.parts) and network.parts[k].kind in (VOLTAGE_SOURCE, CURRENT_SOURCE)


def driven_setting(network, states, source):
    """The laws' setting with the source (None: none) at 1, all other sources and the diodes' numbers at 0."""
    drives = [(1, 1) if k == source else (0, 1) for k in range(len(network.parts))]
    return Setting(network, [0, 1], states, drives)
