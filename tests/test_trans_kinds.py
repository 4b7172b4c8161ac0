"""trans on ordinary networks: each kind of element, each quantity, what drives and what doesn't."""

import unittest
from fractions import Fraction

from tests.helper import C, D, E, F, G, H, I, L, M, O, R, S, T, V, net, part, quotient
from wirequotients.networks import trans

ZERO = quotient([0], [1])
ONE = quotient([1], [1])


class ResistorsAndSources(unittest.TestCase):
    divider = net(2, V(1, 0, 8), R(1, 2, 1), R(2, 0, 3))

    def test_node_voltages(self):
        self.assertEqual(trans(0, 0, 1, self.divider), ONE)
        self.assertEqual(trans(0, 0, 2, self.divider), quotient([3], [4]))

    def test_ground_is_at_zero(self):
        self.assertEqual(trans(0, 0, 0, self.divider), ZERO)

    def test_currents_run_from_a_through_the_element_to_b(self):
        self.assertEqual(trans(0, 1, 0, self.divider), quotient([-1], [4]))
        self.assertEqual(trans(0, 1, 1, self.divider), quotient([1], [4]))
        self.assertEqual(trans(0, 1, 2, self.divider), quotient([1], [4]))

    def test_voltages_are_a_less_b(self):
        self.assertEqual(trans(0, 2, 0, self.divider), ONE)
        self.assertEqual(trans(0, 2, 1, self.divider), quotient([1], [4]))
        turned = net(2, V(1, 0, 8), R(2, 1, 1), R(2, 0, 3))
        self.assertEqual(trans(0, 2, 1, turned), quotient([-1], [4]))
        self.assertEqual(trans(0, 1, 1, turned), quotient([-1], [4]))

    def test_current_source(self):
        row = net(1, I(0, 1, 7), R(1, 0, 5))
        self.assertEqual(trans(0, 0, 1, row), quotient([5], [1]))
        self.assertEqual(trans(0, 1, 0, row), ONE)
        self.assertEqual(trans(0, 2, 0, row), quotient([-5], [1]))
        self.assertEqual(trans(0, 0, 1, net(1, I(1, 0, 7), R(1, 0, 5))), quotient([-5], [1]))

    def test_the_sources_own_number_does_not_count(self):
        for q in (0, -3, Fraction(2, 7), 1000000):
            self.assertEqual(trans(0, 0, 2, net(2, V(1, 0, q), R(1, 2, 1), R(2, 0, 3))), quotient([3], [4]))
            self.assertEqual(trans(0, 0, 1, net(1, I(0, 1, q), R(1, 0, 5))), quotient([5], [1]))

    def test_other_sources_are_zero(self):
        row = net(3, V(1, 0, 5), R(1, 2, 2), R(2, 0, 2), V(3, 0, 9), R(3, 2, 2), I(0, 2, 4))
        self.assertEqual(trans(0, 0, 2, row), quotient([1], [3]))
        self.assertEqual(trans(3, 0, 2, row), quotient([1], [3]))
        self.assertEqual(trans(5, 0, 2, row), quotient([2], [3]))
        self.assertEqual(trans(0, 2, 3, row), ZERO)
        self.assertEqual(trans(0, 1, 5, row), ZERO)

    def test_numbers_need_not_stand_in_lowest_terms(self):
        row = net(2, V(1, 0), part(0, (1, 2), (4, 4)), part(0, (2, 0), (9, 3)))
        self.assertEqual(trans(0, 0, 2, row), quotient([3], [4]))

    def test_an_element_from_a_node_to_the_same(self):
        row = net(1, V(1, 0), R(1, 0, 2), R(1, 1, 5), R(0, 0, 5), C(1, 1, 1))
        for k in (2, 3, 4):
            self.assertEqual(trans(0, 1, k, row), ZERO)
            self.assertEqual(trans(0, 2, k, row), ZERO)
        self.assertEqual(trans(0, 1, 0, row), quotient([-1], [2]))


class CapacitorsAndCoils(unittest.TestCase):
    def test_capacitor(self):
        row = net(2, V(1, 0), R(1, 2, 2), C(2, 0, 3))
        self.assertEqual(trans(0, 0, 2, row), quotient([1], [6, 1]))
        self.assertEqual(trans(0, 1, 2, row), quotient([3, 0], [6, 1]))
        self.assertEqual(trans(0, 2, 1, row), quotient([6, 0], [6, 1]))

    def test_coil(self):
        row = net(2, V(1, 0), R(1, 2, 2), L(2, 0, 3))
        self.assertEqual(trans(0, 0, 2, row), quotient([3, 0], [3, 2]))
        self.assertEqual(trans(0, 1, 2, row), quotient([1], [3, 2]))

    def test_resonant_circuit(self):
        row = net(3, V(1, 0), R(1, 2, 2), L(2, 3, 3), C(3, 0, Fraction(1, 5)))
        self.assertEqual(trans(0, 0, 3, row), quotient([5], [3, 2, 5]))
        self.assertEqual(trans(0, 2, 2, row), quotient([3, 0, 0], [3, 2, 5]))

    def test_coupled_coils(self):
        for x, y in ((2, 3), (3, 2)):
            row = net(3, V(1, 0), R(1, 2, 1), L(2, 0, 2), L(3, 0, 3), R(3, 0, 1), M(x, y, 1))
            self.assertEqual(trans(0, 0, 3, row), quotient([1, 0], [5, 5, 1]))
            self.assertEqual(trans(0, 1, 2, row), quotient([3, 1], [5, 5, 1]))
            self.assertEqual(trans(0, 1, 3, row), quotient([-1, 0], [5, 5, 1]))

    def test_coils_coupled_the_other_way(self):
        row = net(3, V(1, 0), R(1, 2, 1), L(2, 0, 2), L(3, 0, 3), R(3, 0, 1), M(2, 3, -1))
        self.assertEqual(trans(0, 0, 3, row), quotient([-1, 0], [5, 5, 1]))

    def test_fully_coupled_coils(self):
        row = net(3, V(1, 0), R(1, 2, 1), L(2, 0, 2), L(3, 0, 8), R(3, 0, 1), M(2, 3, 4))
        self.assertEqual(trans(0, 0, 3, row), quotient([4, 0], [10, 1]))

    def test_coupling_by_zero_is_none(self):
        row = net(3, V(1, 0), R(1, 2, 1), L(2, 0, 2), L(3, 0, 8), R(3, 0, 1), M(2, 3, 0))
        self.assertEqual(trans(0, 0, 3, row), ZERO)
        self.assertEqual(trans(0, 0, 2, row), quotient([2, 0], [2, 1]))

    def test_three_coils_with_fractions(self):
        # In series 1/2 + 1/3 + 1/5, coupled by twice 1/4 - 1/6 + 1/7: together 52/35, behind 1.
        row = net(4, V(1, 0), R(1, 2, 1), L(2, 3, Fraction(1, 2)), L(3, 4, Fraction(1, 3)), L(4, 0, Fraction(1, 5)),
                  M(2, 3, Fraction(1, 4)), M(4, 3, Fraction(-1, 6)), M(2, 4, Fraction(1, 7)))
        self.assertEqual(trans(0, 1, 1, row), quotient([35], [52, 35]))


class DrivenElements(unittest.TestCase):
    def test_voltage_by_voltage(self):
        row = net(2, V(1, 0), E(2, 0, 1, 0, -3), R(2, 0, 2))
        self.assertEqual(trans(0, 0, 2, row), quotient([-3], [1]))
        self.assertEqual(trans(0, 1, 1, row), quotient([3], [2]))

    def test_current_by_voltage(self):
        row = net(2, V(1, 0), G(2, 0, 1, 0, 2), R(2, 0, 5))
        self.assertEqual(trans(0, 0, 2, row), quotient([-10], [1]))
        self.assertEqual(trans(0, 1, 1, row), quotient([2], [1]))

    def test_driving_pair_turned(self):
        self.assertEqual(trans(0, 0, 2, net(2, V(1, 0), E(2, 0, 0, 1, -3), R(2, 0, 2))), quotient([3], [1]))
        self.assertEqual(trans(0, 0, 2, net(2, V(1, 0), G(2, 0, 0, 1, 2), R(2, 0, 5))), quotient([10], [1]))

    def test_voltage_by_current(self):
        row = net(2, V(1, 0), R(1, 0, 2), H(2, 0, 1, 6), R(2, 0, 1))
        self.assertEqual(trans(0, 0, 2, row), quotient([3], [1]))
        of_the_source = net(2, V(1, 0), R(1, 0, 2), H(2, 0, 0, 6), R(2, 0, 1))
        self.assertEqual(trans(0, 0, 2, of_the_source), quotient([-3], [1]))

    def test_current_by_current(self):
        row = net(2, V(1, 0), R(1, 0, 2), F(2, 0, 1, 6), R(2, 0, 5))
        self.assertEqual(trans(0, 1, 2, row), quotient([3], [1]))
        self.assertEqual(trans(0, 0, 2, row), quotient([-15], [1]))

    def test_a_transformers_first_current_is_followed(self):
        transformer = [V(1, 0), T(1, 0, 2, 0, 2), R(2, 0, 3)]
        self.assertEqual(trans(0, 0, 3, net(3, *transformer, H(3, 0, 1, 12), R(3, 0, 1))), ONE)
        self.assertEqual(trans(0, 0, 3, net(3, *transformer, F(0, 3, 1, 12), R(3, 0, 1))), ONE)

    def test_driven_elements_with_the_number_zero(self):
        row = net(2, V(1, 0), R(1, 0, 2), E(2, 0, 1, 0, 0), R(2, 0, 5))
        self.assertEqual(trans(0, 0, 2, row), ZERO)
        row = net(2, V(1, 0), R(1, 0, 2), F(2, 0, 1, 0), R(2, 0, 5))
        self.assertEqual(trans(0, 0, 2, row), ZERO)


class TransformersAmplifiersSwitches(unittest.TestCase):
    def test_transformer(self):
        row = net(2, V(1, 0), T(1, 0, 2, 0, 2), R(2, 0, 3))
        self.assertEqual(trans(0, 0, 2, row), quotient([1], [2]))
        self.assertEqual(trans(0, 1, 2, row), quotient([1], [6]))
        self.assertEqual(trans(0, 1, 1, row), quotient([1], [12]))
        self.assertEqual(trans(0, 2, 1, row), ONE)
        self.assertEqual(trans(0, 1, 0, row), quotient([-1], [12]))

    def test_transformer_that_turns(self):
        row = net(2, V(1, 0), T(1, 0, 2, 0, Fraction(-1, 2)), R(2, 0, 3))
        self.assertEqual(trans(0, 0, 2, row), quotient([-2], [1]))
        self.assertEqual(trans(0, 1, 1, row), quotient([4], [3]))

    def test_elements_behind_a_transformer_keep_their_currents(self):
        row = net(2, T(1, 0, 2, 0, 2), V(1, 0), R(2, 0, 3))
        self.assertEqual(trans(1, 1, 0, row), quotient([1], [12]))
        self.assertEqual(trans(1, 1, 1, row), quotient([-1], [12]))
        self.assertEqual(trans(1, 1, 2, row), quotient([1], [6]))

    def test_amplifier(self):
        row = net(3, V(1, 0), R(1, 2, 1), R(2, 3, 5), O(3, 0, 2, 0))
        self.assertEqual(trans(0, 0, 3, row), quotient([-5], [1]))
        self.assertEqual(trans(0, 0, 2, row), ZERO)
        self.assertEqual(trans(0, 1, 3, row), ONE)
        self.assertEqual(trans(0, 2, 3, row), quotient([-5], [1]))

    def test_integrator_with_a_leak(self):
        row = net(3, V(1, 0), R(1, 2, 2), C(2, 3, 3), R(2, 3, 7), O(3, 0, 0, 2))
        self.assertEqual(trans(0, 0, 3, row), quotient([-7], [42, 2]))

    def test_switches(self):
        for closed in (1, (1, 1), (5, 5)):
            row = net(2, V(1, 0), S(1, 2, closed), R(2, 0, 4))
            self.assertEqual(trans(0, 0, 2, row), ONE)
            self.assertEqual(trans(0, 1, 1, row), quotient([1], [4]))
            self.assertEqual(trans(0, 2, 1, row), ZERO)
        for opened in (0, (0, 1), (0, 5)):
            row = net(2, V(1, 0), S(1, 2, opened), R(2, 0, 4))
            self.assertEqual(trans(0, 0, 2, row), ZERO)
            self.assertEqual(trans(0, 1, 1, row), ZERO)
            self.assertEqual(trans(0, 2, 1, row), ONE)


class Diodes(unittest.TestCase):
    def forward(self, q):
        return net(2, V(1, 0, q), R(1, 2, 2), D(2, 0, 1))

    def test_on(self):
        row = self.forward(5)
        self.assertEqual(trans(0, 0, 2, row), ZERO)
        self.assertEqual(trans(0, 1, 2, row), quotient([1], [2]))
        self.assertEqual(trans(0, 2, 2, row), ZERO)

    def test_off(self):
        row = self.forward(-5)
        self.assertEqual(trans(0, 0, 2, row), ONE)
        self.assertEqual(trans(0, 1, 2, row), ZERO)
        self.assertEqual(trans(0, 2, 2, row), ONE)

    def test_off_comes_before_on_where_both_hold(self):
        self.assertEqual(trans(0, 0, 2, self.forward(1)), ONE)
        self.assertEqual(trans(0, 0, 2, self.forward(Fraction(1000000, 999999))), ZERO)
        self.assertEqual(trans(0, 0, 2, self.forward(Fraction(999999, 1000000))), ONE)

    def test_the_first_diode_counts_most(self):
        # Either diode alone may carry the current: off, on comes before on, off.
        row = net(1, I(0, 1), D(1, 0, 0), D(1, 0, 0))
        self.assertEqual(trans(0, 1, 1, row), ZERO)
        self.assertEqual(trans(0, 1, 2, row), ONE)
        row = net(1, I(0, 1), D(1, 0, 0), D(1, 0, 0), D(1, 0, 0))
        self.assertEqual([trans(0, 1, k, row) for k in (1, 2, 3)], [ZERO, ZERO, ONE])

    def test_on_with_no_current_holds(self):
        # Off, node 1 would hang free; on, no current flows, and that is enough.
        self.assertEqual(trans(1, 1, 0, net(2, D(1, 0, 3), V(2, 0), R(2, 0, 1))), ZERO)

    def test_the_states_are_found_with_coils_closed_and_capacitors_open(self):
        row = net(3, V(1, 0, 5), R(1, 2, 1), C(2, 3, 1), R(3, 0, 1), D(3, 0, 1), L(2, 0, 1))
        self.assertEqual(trans(0, 1, 4, row), ZERO)
        row = net(3, V(1, 0, 5), R(1, 2, 1), L(2, 3, 1), D(3, 0, 1), C(3, 0, 1))
        self.assertEqual(trans(0, 1, 3, row), quotient([1], [1, 1]))

    def test_two_sources_settle_the_state_and_one_drives(self):
        row = net(2, V(1, 0, -5), R(1, 2, 1), D(2, 0, 0), I(0, 2, 6))
        self.assertEqual(trans(0, 1, 2, row), ONE)
        row = net(2, V(1, 0, -5), R(1, 2, 1), D(2, 0, 0), I(0, 2, 4))
        self.assertEqual(trans(0, 0, 2, row), ONE)

    def test_a_bridge_of_three_states(self):
        row = net(3, V(1, 0, 9), R(1, 2, 1), D(2, 0, 4), D(2, 3, 1), R(3, 0, 1), D(0, 2, 0))
        # Node 2 is at 4 by its first diode at most; the second carries on to node 3, the third stays off.
        self.assertEqual(trans(0, 1, 2, row), ONE)
        self.assertEqual(trans(0, 1, 3, row), ZERO)
        self.assertEqual(trans(0, 1, 5, row), ZERO)


if __name__ == "__main__":
    unittest.main()
