"""What port refuses, with the edges of each refusal, and which refusal comes first."""

import unittest

from tests.helper import MOST, POINTLESS, R, V, WRONG_NETS, net
from wirequotients.networks import port

ROW = net(3, R(1, 0, 1), R(1, 2, 2), R(2, 0, 3), R(2, 3, 4), R(3, 0, 5))
NODES = [1, 0, 3, 0]


class WhatIsToldAtTheCall(unittest.TestCase):
    """-1"""

    def test_kind_row_and_col(self):
        for kind in (0, 1):
            for row in (0, 1):
                for col in (0, 1):
                    self.assertEqual(port(kind, row, col, ROW, NODES)[0], 0)
        for much in (2, 3, 63, MOST):
            for place in range(3):
                for other in (0, 1):
                    asked = [other] * 3
                    asked[place] = much
                    self.assertEqual(port(*asked, ROW, NODES), [-1], asked)

    def test_fewer_and_more_than_four_nodes(self):
        nodes = [1, 0, 3, 0, 2, 1]
        for kind in (0, 1):
            for length in range(7):
                self.assertEqual(port(kind, 0, 0, ROW, nodes[:length])[0], 0 if length == 4 else -1, length)


class OtherRefusals(unittest.TestCase):
    def test_no_network_and_faults(self):
        for row, refusal in WRONG_NETS:
            for kind in (0, 1):
                self.assertEqual(port(kind, 0, 0, row, [1, 0, 1, 0]), refusal, row)

    def test_nodes(self):
        for place in range(4):
            for node in (4, 5, 63, 64, MOST):
                nodes = list(NODES)
                nodes[place] = node
                for kind in (0, 1):
                    for row in (0, 1):
                        self.assertEqual(port(kind, row, row, ROW, nodes), [-3], nodes)
            nodes = list(NODES)
            nodes[place] = 3
            self.assertNotEqual(port(0, 0, 0, ROW, nodes), [-3])

    def test_no_operating_point(self):
        for row in POINTLESS:
            for kind in (0, 1):
                self.assertEqual(port(kind, 0, 1, row, [1, 0, 0, 1]), [-4], row)

    def test_what_is_put_there_makes_no_operating_point(self):
        # With a source across each of its nodes this one would be regular; by itself it isn't.
        self.assertEqual(port(1, 0, 0, net(2, R(1, 0, 1)), [1, 0, 2, 0]), [-4])


class WhichRefusalFirst(unittest.TestCase):
    def test_what_is_told_at_the_call_before_all_else(self):
        for row in [row for row, refusal in WRONG_NETS] + POINTLESS + [ROW]:
            self.assertEqual(port(2, 0, 0, row, NODES), [-1])
            self.assertEqual(port(0, 2, 0, row, [9, 9, 9, 9]), [-1])
            self.assertEqual(port(0, 0, 2, row, NODES), [-1])
            self.assertEqual(port(1, 0, 0, row, [9, 9, 9]), [-1])

    def test_no_network_and_faults_before_nodes(self):
        for row, refusal in WRONG_NETS:
            self.assertEqual(port(1, 0, 0, row, [9, 9, 9, 9]), refusal, row)

    def test_nodes_before_the_operating_point(self):
        for row in POINTLESS:
            self.assertEqual(port(0, 0, 0, row, [1, 0, 3, 0]), [-3])

    def test_nodes_before_what_is_put_there(self):
        self.assertEqual(port(1, 0, 0, ROW, [1, 1, 4, 4]), [-3])
        self.assertEqual(port(1, 0, 0, ROW, [1, 1, 3, 3]), [-5])

    def test_the_operating_point_before_what_is_put_there(self):
        self.assertEqual(port(1, 0, 0, net(1, V(1, 0), V(1, 0)), [1, 0, 1, 0]), [-4])


if __name__ == "__main__":
    unittest.main()
