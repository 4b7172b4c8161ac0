"""What the tests share: short ways to write networks, a second reckoning of the laws, by fractions at one s, networks
that are thrown, and rows that every call refuses."""

from fractions import Fraction
from itertools import product

MOST = 4294967295


def part(kind, places, q=0):
    """Seven numbers; q is a whole number, a Fraction, or a pair that is put down as it stands."""
    if isinstance(q, tuple):
        top, bottom = q
    else:
        top, bottom = Fraction(q).numerator, Fraction(q).denominator
    return [kind] + (list(places) + [0, 0, 0, 0])[:4] + [top, bottom]


def R(a, b, q):
    return part(0, (a, b), q)


def C(a, b, q):
    return part(1, (a, b), q)


def L(a, b, q):
    return part(2, (a, b), q)


def M(x, y, q):
    return part(3, (x, y), q)


def V(a, b, q=1):
    return part(4, (a, b), q)


def I(a, b, q=1):
    return part(5, (a, b), q)


def E(a, b, c, d, q):
    return part(6, (a, b, c, d), q)


def G(a, b, c, d, q):
    return part(7, (a, b, c, d), q)


def H(a, b, x, q):
    return part(8, (a, b, x), q)


def F(a, b, x, q):
    return part(9, (a, b, x), q)


def T(a, b, c, d, q):
    return part(10, (a, b, c, d), q)


def O(a, b, c, d):
    return part(11, (a, b, c, d), 0)


def S(a, b, q):
    return part(12, (a, b), q)


def D(a, b, q):
    return part(13, (a, b), q)


def net(last_node, *parts):
    row = [last_node]
    for numbers in parts:
        row.extend(numbers)
    return row


def rows_of(row):
    return [row[start:start + 7] for start in range(1, len(row), 7)]


def number_of(numbers):
    return Fraction(numbers[5], numbers[6])


def quotient(top, bottom):
    """The answer that tells this quotient: coefficients from the highest power's on."""
    return [0, len(top)] + list(top) + [len(bottom)] + list(bottom)


def polynomials_of(answer):
    """N's and D's coefficients out of an answer that is a quotient, whose form is looked at too."""
    assert answer[0] == 0
    length = answer[1]
    top = answer[2:2 + length]
    bottom = answer[3 + length:]
    assert answer[2 + length] == len(bottom) and top and bottom
    return top, bottom


class Gauss:
    """A complex number whose parts are fractions."""

    def __init__(self, along, up=0):
        self.along = Fraction(along)
        self.up = Fraction(up)

    def __eq__(self, other):
        other = gauss(other)
        return (self.along, self.up) == (other.along, other.up)

    def __add__(self, other):
        other = gauss(other)
        return Gauss(self.along + other.along, self.up + other.up)

    def __mul__(self, other):
        other = gauss(other)
        return Gauss(self.along * other.along - self.up * other.up, self.along * other.up + self.up * other.along)

    __radd__ = __add__
    __rmul__ = __mul__

    def __neg__(self):
        return Gauss(-self.along, -self.up)

    def __sub__(self, other):
        return self + -gauss(other)

    def __rsub__(self, other):
        return -self + other

    def __truediv__(self, other):
        other = gauss(other)
        size = other.along * other.along + other.up * other.up
        return self * Gauss(other.along / size, -other.up / size)

    def __rtruediv__(self, other):
        return gauss(other) / self

    def __repr__(self):
        return f"Gauss({self.along}, {self.up})"


def gauss(x):
    return x if isinstance(x, Gauss) else Gauss(x)


def exact(x):
    return x if isinstance(x, Gauss) else Fraction(x)


def at(coefficients, s):
    result = exact(0)
    for x in coefficients:
        result = result * s + x
    return result


def unknowns_of(row):
    names = [("v", node) for node in range(1, row[0] + 1)]
    for k, numbers in enumerate(rows_of(row)):
        names.extend([("i", k)] if numbers[0] != 3 else [])
        names.extend([("j", k)] if numbers[0] == 10 else [])
    return names


def solve(names, equations):
    """The one solution of equations (a dict of factors, and a right side), as a dict; None if there isn't just one."""
    assert len(names) == len(equations)
    rows = [[exact(factors.get(name, 0)) for name in names] + [exact(right)] for factors, right in equations]
    for column in range(len(names)):
        pivot = next((r for r in range(column, len(rows)) if rows[r][column] != 0), None)
        if pivot is None:
            return None
        rows[column], rows[pivot] = rows[pivot], rows[column]
        head = rows[column][column]
        rows[column] = [x / head for x in rows[column]]
        for r, row in enumerate(rows):
            if r != column and row[column] != 0:
                factor = row[column]
                rows[r] = [x - factor * y for x, y in zip(row, rows[column])]
    return {name: rows[column][-1] for column, name in enumerate(names)}


def determinant(names, equations):
    """The determinant of equations such as solve takes."""
    rows = [[exact(factors.get(name, 0)) for name in names] for factors, right in equations]
    result = exact(1)
    while rows:
        place = next((k for k, row in enumerate(rows) if row[0] != 0), None)
        if place is None:
            return exact(0)
        pivot = rows.pop(place)
        result *= -pivot[0] if place % 2 else pivot[0]
        rows = [[x - row[0] / pivot[0] * y for x, y in zip(row, pivot)][1:] for row in rows]
    return result


def sum_of(*terms):
    """A dict of factors out of pairs (factor, name); node 0's voltage is left out."""
    factors = {}
    for factor, name in terms:
        if name != ("v", 0):
            factors[name] = factors.get(name, 0) + factor
    return factors


def equations_of(row, s, states, source):
    """The laws at s. source None: all as it stands; else that source 1 and the others and the diodes' q 0."""
    parts = rows_of(row)
    currents = {node: [] for node in range(row[0] + 1)}
    equations = []
    for k, (kind, a, b, c, d, top, bottom) in enumerate(parts):
        if kind == 3:
            continue
        q = Fraction(top, bottom)
        drive = q if source is None else Fraction(int(k == source))
        v = [(1, ("v", a)), (-1, ("v", b))]
        w = [(-q, ("v", c)), (q, ("v", d))]
        i = ("i", k)
        currents[a].append((1, i))
        currents[b].append((-1, i))
        if kind == 0:
            equations.append((sum_of(*v, (-q, i)), 0))
        elif kind == 1:
            equations.append((sum_of((1, i), (-q * s, ("v", a)), (q * s, ("v", b))), 0))
        elif kind == 2:
            terms = [(-q * s, i)]
            for other in parts:
                if other[0] == 3 and other[1] == k:
                    terms.append((-number_of(other) * s, ("i", other[2])))
                if other[0] == 3 and other[2] == k:
                    terms.append((-number_of(other) * s, ("i", other[1])))
            equations.append((sum_of(*v, *terms), 0))
        elif kind == 4:
            equations.append((sum_of(*v), drive))
        elif kind == 5:
            equations.append((sum_of((1, i)), drive))
        elif kind == 6:
            equations.append((sum_of(*v, *w), 0))
        elif kind == 7:
            equations.append((sum_of((1, i), *w), 0))
        elif kind == 8:
            equations.append((sum_of(*v, (-q, ("i", c))), 0))
        elif kind == 9:
            equations.append((sum_of((1, i), (-q, ("i", c))), 0))
        elif kind == 10:
            equations.append((sum_of(*v, *w), 0))
            equations.append((sum_of((1, ("j", k)), (q, i)), 0))
            currents[c].append((1, ("j", k)))
            currents[d].append((-1, ("j", k)))
        elif kind == 11:
            equations.append((sum_of((1, ("v", c)), (-1, ("v", d))), 0))
        elif kind == 12:
            equations.append((sum_of(*v) if q == 1 else sum_of((1, i)), 0))
        elif kind == 13:
            equations.append((sum_of(*v), drive) if states[k] else (sum_of((1, i)), 0))
    for node in range(1, row[0] + 1):
        equations.append((sum_of(*currents[node]), 0))
    return equations


def solution_at(row, s, states, source):
    return solve(unknowns_of(row), equations_of(row, s, states, source))


def determinant_at(row, s, states):
    return determinant(unknowns_of(row), equations_of(row, s, states, None))


def voltage(solution, numbers):
    return solution.get(("v", numbers[1]), 0) - solution.get(("v", numbers[2]), 0)


def operating_states(row):
    """Of each diode's number whether it's on; None if there is no operating point."""
    diodes = [k for k, numbers in enumerate(rows_of(row)) if numbers[0] == 13]
    for choice in product((False, True), repeat=len(diodes)):
        states = dict(zip(diodes, choice))
        solution = solution_at(row, 0, states, None)
        if solution is not None and all(agrees(row, solution, k, states[k]) for k in diodes):
            return states
    return None


def agrees(row, solution, k, on):
    numbers = rows_of(row)[k]
    return solution[("i", k)] >= 0 if on else voltage(solution, numbers) <= number_of(numbers)


def quantity(row, solution, what, k):
    if what == 0:
        return solution.get(("v", k), Fraction(0))
    if what == 1:
        return solution[("i", k)]
    return voltage(solution, rows_of(row)[k])


class Dice:
    """Numbers that look thrown but are the same each time."""

    def __init__(self, seed):
        self.state = seed

    def below(self, end):
        self.state = (self.state * 6364136223846793005 + 1442695040888963407) % (1 << 64)
        return (self.state >> 33) % end

    def one_of(self, choices):
        return choices[self.below(len(choices))]


NUMBERS = [Fraction(n, d) for n, d in ((1, 1), (2, 1), (3, 1), (1, 2), (2, 3), (5, 4), (7, 1), (1, 9))]
COILS = (1, 2, 2, 2, 5)
WIRING = (1, 1, 2, 2, 2, 4, 5, 6, 7, 8, 9, 10, 11, 12, 13, 13)


def thrown_number(dice, kind):
    q = dice.one_of(NUMBERS)
    if kind in (0, 1, 2, 13):
        return q if kind != 13 or dice.below(3) else 0
    if kind == 11:
        return 0
    if kind == 12:
        return dice.below(2)
    return q if dice.below(2) else -q


def thrown_part(dice, kind, last_node, before):
    places = [dice.below(last_node + 1) for place in range(4)]
    if kind in (8, 9):
        places[2] = dice.one_of([k for k, numbers in enumerate(before) if numbers[0] != 3])
    return part(kind, places, thrown_number(dice, kind))


def thrown_coupling(dice, parts):
    coils = [k for k, numbers in enumerate(parts) if numbers[0] == 2]
    x, y = dice.one_of(coils), dice.one_of(coils)
    pairs = [sorted(numbers[1:3]) for numbers in parts if numbers[0] == 3]
    q = min(number_of(parts[x]), number_of(parts[y])) * dice.one_of((1, -1, Fraction(1, 2), Fraction(-1, 3)))
    return [] if x == y or sorted((x, y)) in pairs else [part(3, (x, y), q)]


def thrown_net(dice, wiring):
    """A tree of resistors, which leaves most networks regular, a source, then whatever comes."""
    last_node = 1 + dice.below(6)
    parts = [part(0, (node, dice.below(node)), dice.one_of(NUMBERS)) for node in range(1, last_node + 1)]
    parts.append(part(dice.one_of((4, 5)), (1 + dice.below(last_node), 0), dice.below(9) - 4))
    length = len(parts) + 1 + dice.below(10 - len(parts))
    while len(parts) < length:
        kind = dice.one_of(wiring)
        if kind == 13 and len([numbers for numbers in parts if numbers[0] == 13]) == 3:
            continue
        parts.append(thrown_part(dice, kind, last_node, parts))
        if len(parts) < length and len([numbers for numbers in parts if numbers[0] == 2]) > 1:
            parts.extend(thrown_coupling(dice, parts))
    return [last_node] + [number for numbers in parts for number in numbers]


def asked_of(row):
    """Every source with every quantity there is."""
    parts = rows_of(row)
    whole = [k for k, numbers in enumerate(parts) if numbers[0] != 3]
    quantities = [(0, node) for node in range(row[0] + 1)] + [(what, k) for what in (1, 2) for k in whole]
    return [(k, quantities) for k, numbers in enumerate(parts) if numbers[0] in (4, 5)]


# Networks that every call refuses, each with its refusal: -1 and -2.
WRONG_NETS = [
    ([], [-1]),
    ([0], [-1]),
    ([9], [-1]),
    ([-1], [-1]),
    ([MOST], [-1]),
    (net(0, V(0, 0), R(0, 0, 1)), [-1]),
    (net(9, V(1, 0), R(1, 0, 1)), [-1]),
    (net(1, V(1, 0), R(1, 0, 1))[:-1], [-1]),
    (net(1, V(1, 0), R(1, 0, 1)) + [0], [-1]),
    (net(1, V(1, 0), *[R(1, 0, 1)] * 10), [-1]),
    (net(1, V(1, 0), *[R(1, 0, 1)] * 16), [-1]),
    (net(1, V(1, 0), R(1, 0, 1), *[D(0, 1, 1)] * 4), [-1]),
    (net(1, V(1, 0), R(1, 0, 1), part(14, (1, 0), 1)), [-1]),
    (net(1, V(1, 0), R(1, 0, 1), part(-1, (1, 0), 1)), [-1]),
    (net(1, V(1, 0), R(64, 0, 1)), [-1]),
    (net(1, V(1, 0), R(1, -1, 1)), [-1]),
    (net(1, V(1, 0), part(0, (1, 0, 64, 0), 1)), [-1]),
    (net(1, V(1, 0), part(0, (1, 0, 0, -1), 1)), [-1]),
    (net(1, V(1, 0), R(1, 0, 1000001)), [-1]),
    (net(1, V(1, 0, -1000001), R(1, 0, 1)), [-1]),
    (net(1, V(1, 0), R(1, 0, (1, 0))), [-1]),
    (net(1, V(1, 0), R(1, 0, (1, 1000001))), [-1]),
    (net(1, V(1, 0), R(2, 0, 1)), [-2, 1, 1]),
    (net(1, V(0, 63), R(1, 0, 1)), [-2, 0, 1]),
    (net(1, V(1, 0), T(1, 0, 0, 2, 1), R(1, 0, 1)), [-2, 1, 1]),
    (net(1, V(1, 0), R(1, 0, 0)), [-2, 1, 2]),
    (net(1, V(1, 0), C(1, 0, -1)), [-2, 1, 2]),
    (net(1, V(1, 0), R(1, 0, 1), S(1, 0, 2)), [-2, 2, 2]),
    (net(1, V(1, 0), R(1, 0, 1), D(1, 0, -1)), [-2, 2, 2]),
    (net(1, V(1, 0), R(1, 0, 1), part(11, (1, 0, 1, 0), 1)), [-2, 2, 2]),
    (net(1, V(1, 0), R(1, 0, 1), H(1, 0, 2, 1)), [-2, 2, 3]),
    (net(1, V(1, 0), R(1, 0, 1), M(0, 1, 1)), [-2, 2, 3]),
    (net(2, V(1, 0), R(1, 2, 1), L(2, 0, 1), M(2, 2, 1)), [-2, 3, 3]),
    (net(3, V(1, 0), R(1, 2, 1), L(2, 0, 1), L(3, 0, 1), M(2, 3, 1), M(3, 2, 1)), [-2, 5, 3]),
    (net(3, V(1, 0), R(1, 2, 1), L(2, 0, 1), L(3, 0, 1), M(2, 3, (1000000, 999999))), [-2, 4, 2]),
]

# Networks in which nothing is wrong but that have no operating point.
POINTLESS = [
    [1],
    net(2, V(1, 0), R(1, 0, 1)),
    net(1, V(1, 0), V(1, 0)),
    net(1, V(1, 0), L(1, 0, 1)),
    net(1, I(1, 0, 1), C(1, 0, 1)),
    net(1, V(1, 0, 2), D(1, 0, 1)),
    net(1, I(1, 0, 1), D(1, 0, 1)),
]
