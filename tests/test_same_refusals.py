"""What same refuses, of either network, with the edges of each refusal, and which refusal comes first."""

import unittest

from tests.helper import MOST, POINTLESS, R, V, WRONG_NETS, net
from wirequotients.networks import same

ONE = net(3, R(1, 0, 1), R(1, 2, 2), R(2, 0, 3), R(2, 3, 4), R(3, 0, 5))
TWO = net(2, R(1, 0, 1), R(2, 0, 2))


class HowManyNodes(unittest.TestCase):
    """-1"""

    def test_one_to_three_as_many_of_each(self):
        row = [1, 2, 0, 1, 2, 0]
        for many in range(7):
            for others in range(7):
                told = same(ONE, TWO, row[:many], row[:others])
                self.assertEqual(told[0], 0 if many == others and 1 <= many <= 3 else -1, (many, others))


class OtherRefusals(unittest.TestCase):
    def test_no_network_and_faults_of_the_first(self):
        for row, refusal in WRONG_NETS:
            self.assertEqual(same(row, TWO, [1], [1]), refusal, row)

    def test_no_network_and_faults_of_the_second(self):
        for row, refusal in WRONG_NETS:
            self.assertEqual(same(ONE, row, [1], [1]), refusal, row)

    def test_nodes_of_each(self):
        for place in range(3):
            for node in (4, 5, 63, MOST):
                nodes = [1, 2, 0]
                nodes[place] = node
                self.assertEqual(same(ONE, TWO, nodes, [1, 2, 0]), [-3])
            for node in (3, 4, 63, MOST):
                nodes = [1, 2, 0]
                nodes[place] = node
                self.assertEqual(same(ONE, TWO, [1, 2, 0], nodes), [-3])
        self.assertEqual(same(ONE, TWO, [3], [2])[0], 0)
        self.assertEqual(same(TWO, ONE, [2], [3])[0], 0)
        self.assertEqual(same(TWO, ONE, [3], [2]), [-3])

    def test_no_operating_point_of_either(self):
        for row in POINTLESS:
            self.assertEqual(same(row, TWO, [1], [1]), [-4], row)
            self.assertEqual(same(TWO, row, [1], [1]), [-4], row)
            self.assertEqual(same(row, row, [1], [1]), [-4], row)
            self.assertEqual(same(row, row, [0], [0]), [-4], row)


class WhichRefusalFirst(unittest.TestCase):
    def test_how_many_nodes_before_all_else(self):
        for row in [row for row, refusal in WRONG_NETS] + POINTLESS:
            for nodes_one, nodes_two in (([], []), ([9], [9, 9]), ([1, 1], [1]), ([1] * 4, [1] * 4)):
                self.assertEqual(same(row, TWO, nodes_one, nodes_two), [-1])
                self.assertEqual(same(ONE, row, nodes_one, nodes_two), [-1])
                self.assertEqual(same(row, row, nodes_one, nodes_two), [-1])

    def test_the_first_network_before_the_second(self):
        for one, refusal in WRONG_NETS:
            for two, other_refusal in WRONG_NETS:
                self.assertEqual(same(one, two, [1], [1]), refusal)
        # A fault of the first comes before a second that is no network at all.
        self.assertEqual(same(net(1, R(1, 0, 0)), [], [1], [1]), [-2, 0, 2])

    def test_both_networks_before_nodes(self):
        for row, refusal in WRONG_NETS:
            self.assertEqual(same(row, TWO, [9], [9]), refusal, row)
            self.assertEqual(same(ONE, row, [9], [9]), refusal, row)

    def test_both_networks_before_the_operating_points(self):
        for row, refusal in WRONG_NETS:
            self.assertEqual(same(POINTLESS[1], row, [1], [1]), refusal, row)

    def test_nodes_of_both_before_the_operating_points(self):
        pointless = net(1, V(1, 0), V(1, 0))
        self.assertEqual(same(pointless, TWO, [2], [1]), [-3])
        self.assertEqual(same(pointless, TWO, [1], [3]), [-3])
        self.assertEqual(same(TWO, pointless, [1], [2]), [-3])
        self.assertEqual(same(TWO, pointless, [3], [1]), [-3])
        self.assertEqual(same(pointless, TWO, [1], [2]), [-4])


if __name__ == "__main__":
    unittest.main()
