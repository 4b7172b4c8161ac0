"""What modes refuses, and which refusal comes first."""

import unittest

from tests.helper import C, D, I, POINTLESS, R, V, WRONG_NETS, net
from wirequotients.networks import modes


class Refusals(unittest.TestCase):
    def test_no_network_and_faults(self):
        for row, refusal in WRONG_NETS:
            self.assertEqual(modes(row), refusal, row)

    def test_no_operating_point(self):
        for row in POINTLESS:
            self.assertEqual(modes(row), [-4], row)

    def test_laws_that_are_regular_but_not_at_zero(self):
        self.assertEqual(modes(net(1, C(1, 0, 1))), [-4])
        self.assertEqual(modes(net(1, C(1, 0, 1), R(1, 0, 1))), [0, 1, 1, 0, 0])

    def test_no_network_before_faults(self):
        self.assertEqual(modes(net(1, R(2, 0, 0), R(1, 0, (1, 0)))), [-1])
        self.assertEqual(modes(net(1, R(2, 0, 0))[:-1]), [-1])

    def test_faults_before_the_operating_point(self):
        self.assertEqual(modes(net(2, V(1, 0), V(1, 0), R(1, 0, 0))), [-2, 2, 2])
        self.assertEqual(modes(net(1, V(1, 0, 2), D(1, 0, 1), I(2, 0))), [-2, 2, 1])


if __name__ == "__main__":
    unittest.main()
