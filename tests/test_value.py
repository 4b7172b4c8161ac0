"""value on ordinary networks and at the edges: each kind, real, imaginary and complex s, where it isn't regular."""

import unittest
from fractions import Fraction

from tests.helper import (C, COILS, D, Dice, E, F, G, Gauss, H, I, L, M, O, R, S, T, V, WIRING, asked_of, at, net,
                          operating_states, polynomials_of, quantity, solution_at, thrown_net)
from wirequotients.networks import trans, value


def number(along, up=0):
    """The answer that tells this complex number."""
    told = [0]
    for x in (Fraction(along), Fraction(up)):
        told += [x.numerator, x.denominator]
    return told


def place(along, up=0):
    """s as it is handed over."""
    return number(along, up)[1:]


LOW_PASS = net(2, V(1, 0, 5), R(1, 2, 2), C(2, 0, 3))
RESONANT = net(3, V(1, 0), R(1, 2, 2), L(2, 3, 3), C(3, 0, Fraction(1, 5)))


class Ordinary(unittest.TestCase):
    def test_real_s(self):
        self.assertEqual(value(0, 0, 2, LOW_PASS, place(1)), number(Fraction(1, 7)))
        self.assertEqual(value(0, 0, 2, LOW_PASS, place(-1)), number(Fraction(-1, 5)))
        self.assertEqual(value(0, 0, 2, LOW_PASS, place(Fraction(1, 6))), number(Fraction(1, 2)))

    def test_imaginary_s(self):
        self.assertEqual(value(0, 0, 2, LOW_PASS, place(0, 1)), number(Fraction(1, 37), Fraction(-6, 37)))
        self.assertEqual(value(0, 0, 2, LOW_PASS, place(0, -1)), number(Fraction(1, 37), Fraction(6, 37)))
        self.assertEqual(value(0, 0, 2, LOW_PASS, place(0, Fraction(1, 6))), number(Fraction(1, 2), Fraction(-1, 2)))

    def test_complex_s(self):
        # 1 / (6 (1 + 2 j) + 1) = (7 - 12 j) / 193
        self.assertEqual(value(0, 0, 2, LOW_PASS, place(1, 2)), number(Fraction(7, 193), Fraction(-12, 193)))
        # s s = -3 + 4 j: 5 / (3 s s + 2 s + 5) = 5 / (-2 + 16 j)
        self.assertEqual(value(0, 0, 3, RESONANT, place(1, 2)), number(Fraction(-1, 26), Fraction(-4, 13)))

    def test_every_quantity(self):
        s = place(0, Fraction(1, 3))
        # s = j / 3: 3 s = j, 6 s + 1 = 1 + 2 j
        self.assertEqual(value(0, 0, 0, LOW_PASS, s), number(0))
        self.assertEqual(value(0, 0, 1, LOW_PASS, s), number(1))
        self.assertEqual(value(0, 1, 2, LOW_PASS, s), number(Fraction(2, 5), Fraction(1, 5)))
        self.assertEqual(value(0, 1, 0, LOW_PASS, s), number(Fraction(-2, 5), Fraction(-1, 5)))
        self.assertEqual(value(0, 2, 1, LOW_PASS, s), number(Fraction(4, 5), Fraction(2, 5)))

    def test_the_sources_own_number_and_the_others_do_not_count(self):
        row = net(3, V(1, 0, 5), R(1, 2, 2), R(2, 0, 2), V(3, 0, 9), R(3, 2, 2), I(0, 2, 4))
        for s in (place(0), place(2, -7)):
            self.assertEqual(value(0, 0, 2, row, s), number(Fraction(1, 3)))
            self.assertEqual(value(3, 0, 2, row, s), number(Fraction(1, 3)))
            self.assertEqual(value(5, 0, 2, row, s), number(Fraction(2, 3)))

    def test_zero_stays_in_lowest_terms(self):
        row = net(3, V(1, 0), R(1, 2, 2), C(2, 0, 3), R(3, 0, 7), L(3, 0, 2))
        for s in (place(0), place(3, 5), [6, 10, 8, 12]):
            self.assertEqual(value(0, 0, 3, row, s), [0, 0, 1, 0, 1])

    def test_s_zero(self):
        for s in ([0, 1, 0, 1], [0, 1000, 0, 7]):
            self.assertEqual(value(0, 0, 2, LOW_PASS, s), number(1))
            self.assertEqual(value(0, 1, 2, LOW_PASS, s), number(0))
            self.assertEqual(value(0, 0, 3, RESONANT, s), number(1))
            self.assertEqual(value(0, 0, 2, net(2, V(1, 0), R(1, 2, 1), R(2, 0, 3)), s), number(Fraction(3, 4)))

    def test_fractions_of_s_need_not_stand_in_lowest_terms(self):
        for s in ([1, 3, 2, 5], [2, 6, 4, 10], [100, 300, 400, 1000], [3, 9, 2, 5]):
            self.assertEqual(value(0, 0, 3, RESONANT, s), value(0, 0, 3, RESONANT, [1, 3, 2, 5]))
        self.assertEqual(value(0, 0, 2, LOW_PASS, [6, 6, 12, 6]), number(Fraction(7, 193), Fraction(-12, 193)))

    def test_the_ends_of_s(self):
        self.assertEqual(value(0, 0, 2, LOW_PASS, [1000, 1, 0, 1]), number(Fraction(1, 6001)))
        self.assertEqual(value(0, 0, 2, LOW_PASS, [-1000, 1, 0, 1]), number(Fraction(-1, 5999)))
        self.assertEqual(value(0, 0, 2, LOW_PASS, [1, 1000, 0, 1]), number(Fraction(500, 503)))
        self.assertEqual(value(0, 0, 2, LOW_PASS, [0, 1, 1000, 1]), number(Fraction(1, 36000001), Fraction(-6000, 36000001)))
        self.assertEqual(value(0, 0, 2, LOW_PASS, [0, 1, -1000, 1]), number(Fraction(1, 36000001), Fraction(6000, 36000001)))
        self.assertEqual(value(0, 0, 2, LOW_PASS, [0, 1, 1, 1000]), number(Fraction(250000, 250009), Fraction(-1500, 250009)))


class EachKind(unittest.TestCase):
    S = place(0, 1)

    def told(self, what, k, row):
        return value(0, what, k, row, self.S)

    def test_coil(self):
        row = net(2, V(1, 0), R(1, 2, 3), L(2, 0, 3))
        self.assertEqual(self.told(0, 2, row), number(Fraction(1, 2), Fraction(1, 2)))

    def test_coupled_coils(self):
        # s / (5 s s + 5 s + 1) at j: j / (-4 + 5 j)
        row = net(3, V(1, 0), R(1, 2, 1), L(2, 0, 2), L(3, 0, 3), R(3, 0, 1), M(2, 3, 1))
        self.assertEqual(self.told(0, 3, row), number(Fraction(5, 41), Fraction(-4, 41)))

    def test_current_source(self):
        self.assertEqual(self.told(0, 1, net(1, I(0, 1), R(1, 0, 1), C(1, 0, 1))), number(Fraction(1, 2), Fraction(-1, 2)))

    def test_driven_elements(self):
        low_pass = [V(1, 0), R(1, 2, 1), C(2, 0, 1)]
        half = (Fraction(1, 2), Fraction(-1, 2))
        for element in (E(3, 0, 2, 0, 2), H(3, 0, 1, 2), G(0, 3, 2, 0, 2), F(0, 3, 1, 2)):
            row = net(3, *low_pass, element, R(3, 0, 1))
            along, up = half if element[0] in (6, 7) else (Fraction(1, 2), Fraction(1, 2))
            self.assertEqual(self.told(0, 3, row), number(2 * along, 2 * up), element)

    def test_transformer(self):
        # Seen through it the resistor is 4 times as large: 4 / (4 + j)
        row = net(3, V(1, 0), L(1, 2, 1), T(2, 0, 3, 0, 2), R(3, 0, 1))
        self.assertEqual(self.told(0, 2, row), number(Fraction(16, 17), Fraction(-4, 17)))

    def test_amplifier(self):
        row = net(3, V(1, 0), R(1, 2, 1), C(2, 3, 1), R(2, 3, 1), O(3, 0, 0, 2))
        self.assertEqual(self.told(0, 3, row), number(Fraction(-1, 2), Fraction(1, 2)))

    def test_switches(self):
        for closed in (0, 1):
            row = net(2, V(1, 0), R(1, 2, 1), C(2, 0, 1), S(2, 0, closed))
            self.assertEqual(self.told(0, 2, row), number(0) if closed else number(Fraction(1, 2), Fraction(-1, 2)))

    def test_diodes(self):
        for q in (5, -5):
            row = net(2, V(1, 0, q), R(1, 2, 1), C(2, 0, 1), D(2, 0, 1))
            self.assertEqual(self.told(0, 2, row), number(0) if q > 0 else number(Fraction(1, 2), Fraction(-1, 2)))
            self.assertEqual(self.told(1, 3, row), number(1) if q > 0 else number(0))


class NotRegular(unittest.TestCase):
    """-5"""

    def test_a_real_pole(self):
        for s in ([-1, 6, 0, 1], [-100, 600, 0, 9]):
            self.assertEqual(value(0, 0, 2, LOW_PASS, s), [-5])
        for s in ([-1, 7, 0, 1], [1, 6, 0, 1], [-1, 6, 1, 1000], [-1, 6, -1, 1000]):
            self.assertEqual(value(0, 0, 2, LOW_PASS, s)[0], 0)

    def test_poles_on_the_axis(self):
        row = net(2, V(1, 0), L(1, 2, 2), C(2, 0, 2))
        for up in (Fraction(1, 2), Fraction(-1, 2)):
            self.assertEqual(value(0, 0, 2, row, place(0, up)), [-5])
            self.assertEqual(value(0, 0, 2, row, place(up))[0], 0)
        self.assertEqual(value(0, 0, 2, row, place(0, 1)), number(Fraction(-1, 3)))

    def test_complex_poles(self):
        # s s + 2 s + 2: -1 + j and -1 - j
        row = net(3, V(1, 0), R(1, 2, 2), L(2, 3, 1), C(3, 0, Fraction(1, 2)))
        self.assertEqual(value(0, 0, 3, row, place(-1, 1)), [-5])
        self.assertEqual(value(0, 0, 3, row, place(-1, -1)), [-5])
        self.assertEqual(value(0, 0, 3, row, place(1, 1))[0], 0)
        self.assertEqual(value(0, 0, 3, row, place(1, -1))[0], 0)

    def test_where_the_quotient_has_no_pole(self):
        # Two circuits side by side: at either's pole the laws aren't regular, though the other doesn't see it.
        row = net(3, V(1, 0), R(1, 2, 2), C(2, 0, 3), R(1, 3, 5), C(3, 0, 7))
        for node in range(4):
            for s in (place(Fraction(-1, 6)), place(Fraction(-1, 35))):
                self.assertEqual(value(0, 0, node, row, s), [-5])
        self.assertEqual(trans(0, 0, 2, row), [0, 1, 1, 2, 6, 1])

    def test_where_the_pole_goes_away_in_the_quotient(self):
        row = net(2, V(1, 0), R(1, 2, 2), C(1, 2, 3), R(2, 0, 3), C(2, 0, 2))
        self.assertEqual(trans(0, 0, 2, row), [0, 1, 3, 1, 5])
        self.assertEqual(value(0, 0, 2, row, place(Fraction(-1, 6))), [-5])
        self.assertEqual(value(0, 0, 2, row, place(Fraction(-1, 7))), number(Fraction(3, 5)))

    def test_where_the_quantity_is_zero(self):
        self.assertEqual(value(0, 0, 0, LOW_PASS, place(Fraction(-1, 6))), [-5])

    def test_the_diodes_states_are_those_of_the_operating_point(self):
        # On, the diode holds the capacitor: the laws are regular at every s.
        self.assertEqual(value(0, 0, 2, net(2, V(1, 0, 5), R(1, 2, 2), C(2, 0, 3), D(2, 0, 1)), [-1, 6, 0, 1]), number(0))
        self.assertEqual(value(0, 0, 2, net(2, V(1, 0, -5), R(1, 2, 2), C(2, 0, 3), D(2, 0, 1)), [-1, 6, 0, 1]), [-5])


class TheLaws(unittest.TestCase):
    """Promise 1: held against the quotient of trans, and against the laws reckoned at that s."""

    PLACES = [[0, 1, 0, 1], [-1, 1, 0, 1], [0, 1, 3, 2], [2, 3, -1, 2], [-6, 4, 10, 5]]

    def check(self, row, states, s):
        here = Gauss(Fraction(s[0], s[1]), Fraction(s[2], s[3]))
        for source, quantities in asked_of(row):
            solution = solution_at(row, here, states, source)
            for what, k in quantities:
                told = value(source, what, k, row, s)
                if solution is None:
                    self.assertEqual(told, [-5], (row, source, what, k, s))
                    continue
                top, bottom = polynomials_of(trans(source, what, k, row))
                self.assertEqual(told, number_told(quantity(row, solution, what, k)), (row, source, what, k, s))
                self.assertEqual(told, number_told(at(top, here) / at(bottom, here)), (row, source, what, k, s))
        return solution is None

    def check_thrown(self, dice, wiring, turns):
        for turn in range(turns):
            row = thrown_net(dice, wiring)
            states = operating_states(row)
            if states is None:
                self.assertEqual(value(row[0], 0, 1, row, self.PLACES[1]), [-4], row)
                continue
            self.check(row, states, self.PLACES[turn % len(self.PLACES)])

    def test_thrown_networks(self):
        self.check_thrown(Dice(5), WIRING, 80)

    def test_thrown_networks_of_coils(self):
        self.check_thrown(Dice(7), COILS, 20)

    def test_where_the_laws_are_not_regular(self):
        damped = net(3, V(1, 0), R(1, 2, 2), L(2, 3, 1), C(3, 0, Fraction(1, 2)))
        beside = net(3, V(1, 0), R(1, 2, 2), C(2, 0, 3), R(1, 3, 5), C(3, 0, 7))
        for row, s in ((LOW_PASS, [-1, 6, 0, 1]), (damped, [-1, 1, 1, 1]), (beside, [-1, 35, 0, 1])):
            self.assertTrue(self.check(row, {}, s))
            for near in self.PLACES:
                self.assertFalse(self.check(row, {}, near))


def number_told(x):
    return number(x.along, x.up) if isinstance(x, Gauss) else number(x)


if __name__ == "__main__":
    unittest.main()
