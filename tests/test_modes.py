"""modes: zeros of each sort, alone, in pairs and more than once; networks with and without them; diodes."""

import unittest
from fractions import Fraction

from tests.helper import (C, COILS, D, Dice, E, F, G, H, I, L, M, O, R, S, T, V, WIRING, determinant_at, net,
                          operating_states, thrown_net)
from wirequotients.networks import modes
from wirequotients.zeros import count_zeros

HALF = Fraction(1, 2)


# Circuits that each stand by themselves between one node and the ground: the determinant is the product of theirs.

def falling(q=1):
    """A zero at -q."""
    return lambda node: [R(node, 0, 1), C(node, 0, Fraction(1) / q)]


def rising(q=1):
    """A zero at q."""
    return lambda node: [G(node, 0, node, 0, -1), C(node, 0, Fraction(1) / q)]


def swinging(q=1):
    """The two zeros of s s + q."""
    return lambda node: [L(node, 0, 1), C(node, 0, Fraction(1) / q)]


def settling(p, q=1):
    """The two zeros of s s + p s + q, p not 0."""
    return lambda node: [G(node, 0, node, 0, Fraction(p) / q), L(node, 0, 1), C(node, 0, Fraction(1) / q)]


def beside(*circuits):
    parts = []
    for place, circuit in enumerate(circuits):
        parts.extend(circuit(place + 1))
    return net(len(circuits), *parts)


def companion(*coefficients):
    """A network whose determinant is the power of s next to these coefficients', then these, the highest first."""
    last = len(coefficients)
    parts = [C(node, 0, 1) for node in range(1, last + 1)]
    parts += [G(node, 0, node + 1, 0, -1) for node in range(1, last)]
    parts += [G(last, 0, last - place, 0, q) for place, q in enumerate(coefficients) if q != 0]
    return net(last, *parts)


class Sorted(unittest.TestCase):
    """The answer in the order left, on the axis, right."""

    def told(self, row, left, axis, right):
        self.assertEqual(modes(row), [0, left + axis + right, left, axis, right], row)


class NoModes(Sorted):
    def test_without_capacitors_and_coils(self):
        self.told(net(1, R(1, 0, 1)), 0, 0, 0)
        self.told(net(2, V(1, 0), R(1, 2, 1), R(2, 0, 3)), 0, 0, 0)
        self.told(net(3, V(1, 0), R(1, 2, 1), R(2, 3, 5), O(3, 0, 2, 0), S(1, 2, 0)), 0, 0, 0)

    def test_capacitors_and_coils_that_are_held(self):
        self.told(net(1, V(1, 0), C(1, 0, 1)), 0, 0, 0)
        self.told(net(1, I(1, 0), L(1, 0, 1)), 0, 0, 0)
        self.told(net(1, R(1, 0, 1), C(1, 1, 1)), 0, 0, 0)
        self.told(net(1, S(1, 0, 1), C(1, 0, 1)), 0, 0, 0)


class EachSort(Sorted):
    def test_real_ones(self):
        self.told(beside(falling()), 1, 0, 0)
        self.told(beside(rising()), 0, 0, 1)
        self.told(net(2, V(1, 0), R(1, 2, 2), C(2, 0, 3)), 1, 0, 0)
        self.told(net(2, V(1, 0), R(1, 2, 2), L(2, 0, 3)), 1, 0, 0)
        self.told(beside(falling(2), falling(3), falling(HALF)), 3, 0, 0)
        self.told(beside(rising(2), rising(3), rising(HALF)), 0, 0, 3)
        self.told(beside(falling(2), rising(3), rising(HALF)), 1, 0, 2)

    def test_real_ones_of_one_circuit(self):
        self.told(beside(settling(5, 6)), 2, 0, 0)
        self.told(beside(settling(-5, 6)), 0, 0, 2)

    def test_pairs(self):
        self.told(beside(settling(1)), 2, 0, 0)
        self.told(beside(swinging()), 0, 2, 0)
        self.told(beside(settling(-1)), 0, 0, 2)
        self.told(beside(settling(Fraction(1, 1000000))), 2, 0, 0)
        self.told(beside(settling(Fraction(-1, 1000000))), 0, 0, 2)
        self.told(net(3, V(1, 0), R(1, 2, 2), L(2, 3, 3), C(3, 0, Fraction(1, 5))), 2, 0, 0)

    def test_every_sort_beside_the_others(self):
        self.told(beside(falling(), swinging(), rising()), 1, 2, 1)
        self.told(beside(falling(2), swinging(3), settling(-1, 5)), 1, 2, 2)
        self.told(beside(settling(1, 7), swinging(3), settling(-1, 5)), 2, 2, 2)
        self.told(beside(settling(1, 7), rising(3), swinging(), falling(4)), 3, 2, 1)
        self.told(beside(swinging(2), swinging(3), swinging(5), falling()), 1, 6, 0)
        self.told(beside(swinging(2), swinging(3), settling(-1)), 0, 4, 2)

    def test_zeros_of_one_circuit_with_several(self):
        self.told(companion(6, 11, 6), 3, 0, 0)
        self.told(companion(-6, 11, -6), 0, 0, 3)
        self.told(companion(-4, 1, 6), 1, 0, 2)
        self.told(companion(1, 1, 1), 1, 2, 0)
        self.told(companion(-1, 1, -1), 0, 2, 1)
        self.told(companion(1, 1, 2), 1, 0, 2)
        self.told(companion(2, 1, 1), 3, 0, 0)


class MoreThanOnce(Sorted):
    def test_off_the_axis(self):
        self.told(beside(settling(2)), 2, 0, 0)
        self.told(beside(settling(-2)), 0, 0, 2)
        for times in range(1, 6):
            self.told(beside(*[falling()] * times), times, 0, 0)
            self.told(beside(*[rising()] * times), 0, 0, times)
        self.told(companion(3, 3, 1), 3, 0, 0)
        self.told(companion(-3, 3, -1), 0, 0, 3)
        for times in (2, 3):
            self.told(beside(*[settling(1)] * times), 2 * times, 0, 0)
            self.told(beside(*[settling(-1)] * times), 0, 0, 2 * times)

    def test_on_the_axis(self):
        for times in range(1, 6):
            self.told(beside(*[swinging(4)] * times), 0, 2 * times, 0)

    def test_on_the_axis_beside_others(self):
        self.told(beside(swinging(), swinging(), falling()), 1, 4, 0)
        self.told(beside(swinging(), swinging(), rising()), 0, 4, 1)
        self.told(beside(swinging(), swinging(), falling(), rising()), 1, 4, 1)
        self.told(beside(swinging(), swinging(), swinging(), falling(2), rising(3)), 1, 6, 1)
        self.told(beside(swinging(), swinging(), swinging(2), swinging(2), falling()), 1, 8, 0)
        self.told(beside(swinging(), swinging(), swinging(), swinging(2), rising()), 0, 8, 1)
        self.told(beside(swinging(), swinging(), settling(-1), settling(1)), 2, 4, 2)


class Mirrored(Sorted):
    """Zeros s and -s off the axis, which the test along the axis alone can't tell from those on it."""

    def test_real_pairs(self):
        self.told(beside(falling(), rising()), 1, 0, 1)
        self.told(beside(falling(), rising(), falling(), rising()), 2, 0, 2)
        self.told(beside(falling(), rising(), falling()), 2, 0, 1)
        self.told(beside(falling(), rising(), falling(2), rising(2), rising(3)), 2, 0, 3)
        self.told(companion(0, -1), 1, 0, 1)

    def test_groups_of_four(self):
        self.told(beside(settling(1), settling(-1)), 2, 0, 2)
        self.told(beside(settling(1), settling(-1), falling()), 3, 0, 2)
        self.told(beside(settling(1), settling(-1), rising()), 2, 0, 3)
        self.told(beside(settling(2, 5), settling(-2, 5), swinging(5)), 2, 2, 2)
        self.told(beside(settling(2, 5), settling(-2, 5), falling(), rising()), 3, 0, 3)
        self.told(companion(0, 0, 0, 1), 2, 0, 2)
        self.told(companion(0, 1, 0, 1), 2, 0, 2)

    def test_with_zeros_on_the_axis(self):
        self.told(beside(falling(), rising(), swinging()), 1, 2, 1)
        self.told(beside(falling(), rising(), swinging(), swinging()), 1, 4, 1)
        self.told(beside(falling(), falling(), rising(), swinging()), 2, 2, 1)
        self.told(companion(0, 0, 0, -1), 1, 2, 1)


class EvenOddGaps(Sorted):
    def test_even(self):
        self.told(companion(0, 1), 0, 2, 0)
        self.told(companion(0, 3, 0, 2), 0, 4, 0)
        self.told(companion(0, 2, 0, 1), 0, 4, 0)
        self.told(companion(0, -2, 0, 1), 2, 0, 2)
        self.told(companion(0, 1, 0, -2), 1, 2, 1)

    def test_odd_ones_have_a_zero_at_zero_and_no_operating_point(self):
        for row in (companion(0, 1, 0), companion(0, -1, 0), net(1, C(1, 0, 1)), companion(0, 0, 0, 1, 0)):
            self.assertEqual(modes(row), [-4], row)

    def test_gaps(self):
        self.told(companion(0, 0, 1), 1, 0, 2)
        self.told(companion(0, 0, -1), 2, 0, 1)
        self.told(companion(0, 0, 0, 0, 1), 3, 0, 2)
        self.told(companion(0, 0, 0, 0, -1), 2, 0, 3)
        self.told(companion(1, 0, 0, 1), 2, 0, 2)
        self.told(companion(1, 0, 1), 1, 0, 2)
        self.told(companion(0, 1, 1), 1, 0, 2)
        self.told(companion(0, 0, 1, 1), 2, 0, 2)


class EachKind(Sorted):
    def test_ladder(self):
        self.told(net(5, V(1, 0), L(1, 2, 1), C(2, 0, 1), L(2, 3, 1), C(3, 0, 1), L(3, 4, 1), C(4, 0, 1),
                      L(4, 5, 1), C(5, 0, 1), R(5, 0, 1)), 8, 0, 0)
        self.told(net(5, V(1, 0), L(1, 2, 1), C(2, 0, 1), L(2, 3, 1), C(3, 0, 1), L(3, 4, 1), C(4, 0, 1),
                      L(4, 5, 1), C(5, 0, 1)), 0, 8, 0)

    def test_coupled_coils(self):
        # 5 s s + 5 s + 1; coupled fully, 10 s + 1; not at all, (2 s + 1) (3 s + 1)
        for q, count in ((1, 2), (0, 2), (-1, 2)):
            self.told(net(3, V(1, 0), R(1, 2, 1), L(2, 0, 2), L(3, 0, 3), R(3, 0, 1), M(2, 3, q)), count, 0, 0)
        self.told(net(3, V(1, 0), R(1, 2, 1), L(2, 0, 2), L(3, 0, 8), R(3, 0, 1), M(2, 3, 4)), 1, 0, 0)

    def test_driven_elements(self):
        # A resistor of 2 that E makes one of -2: 6 s - 1.
        self.told(net(3, V(1, 0), R(1, 2, 2), C(2, 0, 3), E(3, 0, 2, 0, 2), R(2, 3, 1)), 0, 0, 1)
        self.told(net(2, R(1, 2, 1), C(1, 0, 1), H(2, 0, 0, -2)), 0, 0, 1)
        self.told(net(2, R(1, 2, 1), C(1, 0, 1), H(2, 0, 0, 2)), 1, 0, 0)
        self.told(net(1, R(1, 0, 1), C(1, 0, 1), F(1, 0, 0, -2)), 0, 0, 1)
        self.told(net(1, R(1, 0, 1), C(1, 0, 1), F(1, 0, 0, 2)), 1, 0, 0)

    def test_transformer(self):
        self.told(net(2, L(1, 0, 1), T(1, 0, 2, 0, -3), C(2, 0, 1)), 0, 2, 0)
        self.told(net(2, L(1, 0, 1), T(1, 0, 2, 0, -3), C(2, 0, 1), R(2, 0, 1)), 2, 0, 0)

    def test_amplifier(self):
        self.told(net(3, V(1, 0), R(1, 2, 2), C(2, 3, 3), R(2, 3, 7), O(3, 0, 0, 2)), 1, 0, 0)

    def test_switches(self):
        self.told(net(2, R(1, 0, 1), C(1, 0, 1), S(1, 2, 0), R(2, 0, 1), C(2, 0, 1)), 2, 0, 0)
        self.told(net(2, R(1, 0, 1), C(1, 0, 1), S(1, 2, 1), R(2, 0, 1), C(2, 0, 1)), 1, 0, 0)

    def test_sources_numbers_do_not_count(self):
        for q in (0, -1, 5):
            self.told(net(2, V(1, 0, q), R(1, 2, 2), C(2, 0, 3), I(2, 0, q)), 1, 0, 0)


class Diodes(Sorted):
    def test_on_and_off(self):
        # On, the diode holds the capacitor; off, it isn't there.
        self.told(net(2, V(1, 0, 5), R(1, 2, 2), C(2, 0, 3), D(2, 0, 1)), 0, 0, 0)
        self.told(net(2, V(1, 0, -5), R(1, 2, 2), C(2, 0, 3), D(2, 0, 1)), 1, 0, 0)
        self.told(net(2, V(1, 0, 1), R(1, 2, 2), C(2, 0, 3), D(2, 0, 1)), 1, 0, 0)

    def test_a_diode_that_lets_a_circuit_swing_or_damps_it(self):
        self.told(net(2, L(1, 0, 1), C(1, 0, 1), D(1, 2, 0), R(2, 0, 1)), 0, 2, 0)
        self.told(net(2, L(1, 0, 1), C(1, 0, 1), D(1, 2, 0), R(2, 0, 1), I(2, 0, 1)), 2, 0, 0)

    def test_the_first_row_of_states(self):
        # Either diode may carry the current, the second one does: it takes its resistor with it.
        row = net(3, I(0, 1), D(1, 2, 0), D(1, 3, 0), C(2, 0, 1), R(2, 0, 1), C(3, 0, 1), S(3, 0, 1))
        self.told(row, 1, 0, 0)


def polynomial_through(points):
    """The coefficients, the highest power's first, of the polynomial through pairs x, y."""
    slopes = [y for x, y in points]
    for step in range(1, len(points)):
        for k in range(len(points) - 1, step - 1, -1):
            slopes[k] = (slopes[k] - slopes[k - 1]) / (points[k][0] - points[k - step][0])
    result = []
    for k in range(len(points) - 1, -1, -1):
        shifted = result + [0]
        lowered = [0] + [points[k][0] * x for x in result]
        result = [x - y for x, y in zip(shifted, lowered)]
        result[-1] += slopes[k]
    while result and result[0] == 0:
        result = result[1:]
    return result


def rounded_zeros(coefficients):
    """All zeros at once, by rounded numbers (Weierstrass)."""
    leading = [complex(x / coefficients[0]) for x in coefficients]
    size = 1 + max([abs(x) for x in leading])
    zeros = [complex(0.4, 0.9) ** k * min(size, 3) for k in range(len(leading) - 1)]
    for turn in range(3000):
        moved = []
        for k, zero in enumerate(zeros):
            top = complex(0)
            for x in leading:
                top = top * zero + x
            for other in zeros[:k] + zeros[k + 1:]:
                top /= zero - other
            moved.append(zero - top)
        if max([abs(x - y) for x, y in zip(zeros, moved)], default=0) < 1e-15 * size:
            break
        zeros = moved
    return zeros


class ThrownNetworks(unittest.TestCase):
    """Promise 2, held against zeros found by rounded numbers, of a determinant reckoned by fractions."""

    def check(self, row, states):
        points = [(Fraction(x, 3), determinant_at(row, Fraction(x, 3), states)) for x in range(-6, 7)]
        coefficients = polynomial_through(points)
        zeros = rounded_zeros(coefficients)
        left = len([x for x in zeros if x.real < -1e-5])
        right = len([x for x in zeros if x.real > 1e-5])
        count = len(coefficients) - 1
        self.assertEqual(modes(row), [0, count, left, count - left - right, right], row)
        return (left > 0, count - left - right > 0, right > 0)

    def check_thrown(self, dice, wiring, turns):
        seen = []
        for turn in range(turns):
            row = thrown_net(dice, wiring)
            states = operating_states(row)
            if states is None:
                self.assertEqual(modes(row), [-4], row)
            else:
                seen.append(self.check(row, states))
        return seen

    def test_thrown_networks(self):
        self.check_thrown(Dice(3), WIRING, 90)

    def test_thrown_networks_of_coils(self):
        self.check_thrown(Dice(11), COILS, 30)

    def test_thrown_networks_that_are_driven(self):
        seen = self.check_thrown(Dice(17), (1, 1, 1, 2, 2, 6, 7, 7, 8, 9), 250)
        self.assertGreater(len([right for left, axis, right in seen if right]), 4)


def product(left, right):
    result = [0] * (len(left) + len(right) - 1)
    for low, x in enumerate(left):
        for high, y in enumerate(right):
            result[low + high] += x * y
    return result


class ThrownZeros(unittest.TestCase):
    """Products of factors whose zeros are known, the constant coefficient first: left, on the axis, right."""

    FACTORS = [
        ([1, 1], 1, 0, 0), ([2, 3], 1, 0, 0), ([-1, 1], 0, 0, 1), ([-2, 3], 0, 0, 1), ([0, 1], 0, 1, 0),
        ([1, 0, 1], 0, 2, 0), ([2, 0, 3], 0, 2, 0), ([-1, 0, 1], 1, 0, 1), ([1, 1, 1], 2, 0, 0), ([1, -1, 1], 0, 0, 2),
        ([5, 2, 1], 2, 0, 0), ([5, -2, 1], 0, 0, 2), ([-2, -1, 1], 1, 0, 1), ([-3], 0, 0, 0), ([4, 0, 0, 0, 1], 2, 0, 2),
    ]

    def check(self, chosen):
        polynomial, left, axis, right = [1], 0, 0, 0
        for factor, to_left, to_axis, to_right in chosen:
            polynomial = product(polynomial, factor)
            left, axis, right = left + to_left, axis + to_axis, right + to_right
        zeros = count_zeros(polynomial)
        self.assertEqual((zeros.left, zeros.axis, zeros.right), (left, axis, right), polynomial)

    def test_one_and_two_factors(self):
        for first in self.FACTORS:
            self.check([first])
            for second in self.FACTORS:
                self.check([first, second])

    def test_thrown_factors(self):
        dice = Dice(23)
        for turn in range(400):
            few = [dice.one_of(self.FACTORS) for place in range(1 + dice.below(3))]
            self.check([dice.one_of(few) for place in range(2 + dice.below(4))])


if __name__ == "__main__":
    unittest.main()
