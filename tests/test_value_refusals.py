"""What value refuses, with the edges of each refusal, and which refusal comes first."""

import unittest

from tests.helper import C, D, E, I, L, M, MOST, POINTLESS, R, S, V, WRONG_NETS, net
from wirequotients.networks import value

ROW = net(3, V(1, 0, 5), R(1, 2, 1), L(2, 0, 2), L(3, 0, 3), R(3, 0, 1), M(2, 3, 1), I(0, 3, 2))
FINE = [1, 2, -1, 3]


class NoFrequency(unittest.TestCase):
    """-1"""

    def told(self, s):
        return value(0, 0, 2, ROW, s)

    def test_numerators(self):
        for part in (0, 2):
            for top in (0, 1, -1, 999, -999, 1000, -1000):
                s = list(FINE)
                s[part] = top
                self.assertEqual(self.told(s)[0], 0, s)
            for top in (1001, -1001, MOST, -MOST):
                s = list(FINE)
                s[part] = top
                self.assertEqual(self.told(s), [-1], s)

    def test_denominators(self):
        for part in (1, 3):
            for bottom in (1, 2, 999, 1000):
                s = list(FINE)
                s[part] = bottom
                self.assertEqual(self.told(s)[0], 0, s)
            for bottom in (0, -1, -1000, 1001, MOST, -MOST):
                s = list(FINE)
                s[part] = bottom
                self.assertEqual(self.told(s), [-1], s)

    def test_fewer_and_more_than_four_numbers(self):
        row = FINE + [1, 1]
        for length in range(7):
            self.assertEqual(self.told(row[:length])[0], 0 if length == 4 else -1, row[:length])

    def test_a_large_fraction_that_comes_to_little_is_refused_too(self):
        self.assertEqual(self.told([2000, 2000, 0, 1]), [-1])


class OtherRefusals(unittest.TestCase):
    def test_no_network_and_faults(self):
        for row, refusal in WRONG_NETS:
            self.assertEqual(value(0, 0, 1, row, FINE), refusal, row)

    def test_sources(self):
        for source in (0, 6):
            self.assertEqual(value(source, 0, 1, ROW, FINE)[0], 0)
        for source in (1, 2, 3, 4, 5, 7, 8, MOST):
            self.assertEqual(value(source, 0, 1, ROW, FINE), [-3])

    def test_no_other_kind_is_a_source(self):
        for element in (C(1, 0, 1), E(0, 0, 1, 0, 1), S(1, 0, 0), D(1, 0, 1)):
            self.assertEqual(value(2, 0, 1, net(1, V(1, 0), R(1, 0, 2), element), FINE), [-3], element)

    def test_nodes(self):
        for node in range(4):
            self.assertEqual(value(0, 0, node, ROW, FINE)[0], 0)
        for node in (4, 5, 63, MOST):
            self.assertEqual(value(0, 0, node, ROW, FINE), [-3])

    def test_currents_and_voltages(self):
        for what in (1, 2):
            for k in (0, 1, 2, 3, 4, 6):
                self.assertEqual(value(0, what, k, ROW, FINE)[0], 0)
            for k in (5, 7, 8, MOST):
                self.assertEqual(value(0, what, k, ROW, FINE), [-3])

    def test_whats(self):
        for what in (3, 4, MOST):
            for k in (0, 1, 5, 7):
                self.assertEqual(value(0, what, k, ROW, FINE), [-3])

    def test_no_operating_point(self):
        for row in POINTLESS[1:]:
            self.assertEqual(value(0, 0, 1, row, FINE), [-4], row)


class WhichRefusalFirst(unittest.TestCase):
    WRONG = ([0, 0, 0, 1], [1001, 1, 0, 1], [0, 1, 0], [0, 1, 0, 1, 0], [])

    def test_s_before_all_else(self):
        rows = [row for row, refusal in WRONG_NETS] + POINTLESS + [ROW]
        for row in rows:
            for s in self.WRONG:
                self.assertEqual(value(0, 0, 1, row, s), [-1])
                self.assertEqual(value(9, 9, 9, row, s), [-1])

    def test_no_row_and_faults_before_what_is_asked(self):
        for row, refusal in WRONG_NETS:
            self.assertEqual(value(9, 9, 9, row, FINE), refusal, row)

    def test_what_is_asked_before_the_operating_point(self):
        for row in POINTLESS:
            self.assertEqual(value(2, 0, 1, row, FINE), [-3])
            self.assertEqual(value(0, 3, 0, row, FINE), [-3])
            self.assertEqual(value(0, 0, 3, row, FINE), [-3])

    def test_what_is_asked_before_the_laws_at_s(self):
        row = net(2, V(1, 0), R(1, 2, 2), C(2, 0, 3))
        pole = [-1, 6, 0, 1]
        self.assertEqual(value(0, 0, 2, row, pole), [-5])
        self.assertEqual(value(1, 0, 2, row, pole), [-3])
        self.assertEqual(value(0, 0, 3, row, pole), [-3])
        self.assertEqual(value(0, 3, 2, row, pole), [-3])

    def test_the_operating_point_before_the_laws_at_s(self):
        # Neither at s = 0 nor anywhere are these laws regular.
        self.assertEqual(value(0, 0, 1, net(2, V(1, 0), R(1, 0, 1)), [0, 1, 0, 1]), [-4])
        self.assertEqual(value(0, 0, 1, net(1, V(1, 0), V(1, 0)), [1, 1, 0, 1]), [-4])
        # At s = 1 these are, at s = 0 not.
        self.assertEqual(value(0, 0, 1, net(1, V(1, 0), L(1, 0, 1)), [1, 1, 0, 1]), [-4])


if __name__ == "__main__":
    unittest.main()
