"""A network out of the row of numbers in which it is handed over."""

from wirequotients.kinds import DIODE, LAST_KIND

MOST_NODES = 8
MOST_PARTS = 10
MOST_DIODES = 3
NUMBERS_OF_A_PART = 7
LAST_PLACE = 63
MOST_TOP = 1000000
MOST_BOTTOM = 1000000


class Part:
    """An element: its kind, its four places (nodes or elements), its number top over bottom."""

    def __init__(self, numbers):
        self.kind = numbers[0]
        self.a = numbers[1]
        self.b = numbers[2]
        self.c = numbers[3]
        self.d = numbers[4]
        self.top = numbers[5]
        self.bottom = numbers[6]


class Network:
    """The last node's number and the elements in order."""

    def __init__(self, last_node, parts):
        self.last_node = last_node
        self.parts = parts


def is_network_row(net):
    if len(net) == 0 or not 1 <= net[0] <= MOST_NODES:
        return False
    if (len(net) - 1) % NUMBERS_OF_A_PART != 0:
        return False
    rows = part_rows(net)
    if len(rows) > MOST_PARTS:
        return False
    if not all([is_part_row(row) for row in rows]):
        return False
    return len([row for row in rows if row[0] == DIODE]) <= MOST_DIODES


def part_rows(net):
    return [net[start:start + NUMBERS_OF_A_PART] for start in range(1, len(net), NUMBERS_OF_A_PART)]


def is_part_row(row):
    if not 0 <= row[0] <= LAST_KIND:
        return False
    # Places that the kind doesn't use are held to the same range: the row's form is asked before the kind's meaning.
    if not all([0 <= place <= LAST_PLACE for place in row[1:5]]):
        return False
    return abs(row[5]) <= MOST_TOP and 1 <= row[6] <= MOST_BOTTOM


def read_network(net):
    return Network(net[0], [Part(row) for row in part_rows(net)])
