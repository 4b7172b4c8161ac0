"""The one form in which a quotient is told."""

import unittest
from fractions import Fraction
from itertools import permutations

from tests.helper import C, E, H, I, L, O, R, V, net, quotient
from wirequotients.networks import trans


class OneForm(unittest.TestCase):
    def test_a_common_divisor_with_s_is_taken_out(self):
        # Both halves have the same time constant, 6.
        row = net(2, V(1, 0), R(1, 2, 2), C(1, 2, 3), R(2, 0, 3), C(2, 0, 2))
        self.assertEqual(trans(0, 0, 2, row), quotient([3], [5]))
        self.assertEqual(trans(0, 1, 0, row), quotient([-6, -1], [5]))

    def test_part_of_the_determinant_that_the_quantity_does_not_see(self):
        row = net(3, V(1, 0), R(1, 2, 2), C(2, 0, 3), R(1, 3, 5), C(3, 0, 7))
        self.assertEqual(trans(0, 0, 2, row), quotient([1], [6, 1]))
        self.assertEqual(trans(0, 0, 3, row), quotient([1], [35, 1]))
        self.assertEqual(trans(0, 1, 0, row), quotient([-147, -10, 0], [210, 41, 1]))

    def test_a_divisor_of_higher_power_is_taken_out(self):
        # Two circuits that are the same side by side: the determinant holds s s + s + 1 twice.
        row = net(5, V(1, 0), R(1, 2, 1), L(2, 3, 1), C(3, 0, 1), R(1, 4, 1), L(4, 5, 1), C(5, 0, 1))
        self.assertEqual(trans(0, 0, 3, row), quotient([1], [1, 1, 1]))
        self.assertEqual(trans(0, 1, 0, row), quotient([-2, 0], [1, 1, 1]))

    def test_whole_numbers_without_a_common_divisor(self):
        row = net(2, V(1, 0), R(1, 2, Fraction(2, 3)), C(2, 0, Fraction(3, 5)))
        self.assertEqual(trans(0, 0, 2, row), quotient([5], [2, 5]))
        row = net(2, V(1, 0), R(1, 2, 4), C(2, 0, 6), R(2, 0, 10))
        self.assertEqual(trans(0, 0, 2, row), quotient([5], [120, 7]))

    def test_a_divisor_of_one_of_both_alone_stays(self):
        self.assertEqual(trans(0, 0, 2, net(2, V(1, 0), R(1, 2, 6), L(2, 0, 4))), quotient([2, 0], [2, 3]))
        self.assertEqual(trans(0, 0, 1, net(1, I(0, 1), R(1, 0, 6))), quotient([6], [1]))
        self.assertEqual(trans(0, 1, 1, net(1, V(1, 0), R(1, 0, 6))), quotient([1], [6]))

    def test_the_denominators_first_is_above_zero(self):
        # Each way round of the elements turns the sign of the laws' determinant or of N, never D's first.
        for r, c in ((2, 3), (1, 1)):
            for first in (R(1, 2, r), R(2, 1, r)):
                for second in (C(2, 0, c), C(0, 2, c)):
                    for parts in permutations((V(1, 0), first, second)):
                        source = parts.index(V(1, 0))
                        self.assertEqual(trans(source, 0, 2, net(2, *parts)), quotient([1], [r * c, 1]))
                    for parts in permutations((V(0, 1), first, second)):
                        source = parts.index(V(0, 1))
                        self.assertEqual(trans(source, 0, 2, net(2, *parts)), quotient([-1], [r * c, 1]))

    def test_a_denominator_that_grows_to_the_right(self):
        # The resistor of -2 that E makes turns the pole to the right: 1 / (1 - 6 s).
        row = net(3, V(1, 0), R(1, 2, 2), C(2, 0, 3), E(3, 0, 2, 0, 2), R(2, 3, 1))
        self.assertEqual(trans(0, 0, 2, row), quotient([1], [6, -1]))

    def test_negative_number_on_top(self):
        row = net(3, V(1, 0), R(1, 2, 1), R(2, 3, 5), O(3, 0, 2, 0))
        self.assertEqual(trans(0, 0, 3, row), quotient([-5], [1]))

    def test_the_quotient_zero(self):
        row = net(3, V(1, 0), R(1, 2, 2), C(2, 0, 3), R(3, 0, 7), L(3, 0, 2))
        self.assertEqual(trans(0, 0, 3, row), [0, 1, 0, 1, 1])
        self.assertEqual(trans(0, 0, 0, row), [0, 1, 0, 1, 1])
        self.assertEqual(trans(0, 1, 3, row), [0, 1, 0, 1, 1])
        self.assertEqual(trans(0, 2, 4, row), [0, 1, 0, 1, 1])

    def test_a_top_of_higher_power_than_the_bottom(self):
        self.assertEqual(trans(0, 0, 1, net(1, I(0, 1), L(1, 0, 3))), quotient([3, 0], [1]))
        row = net(3, I(0, 1), L(1, 0, 3), H(2, 0, 1, 1), C(2, 0, 5), H(3, 0, 3, 1), C(3, 0, 2))
        self.assertEqual(trans(0, 1, 5, row), quotient([10, 0, 0], [1]))

    def test_zeros_in_the_middle_stay(self):
        row = net(2, V(1, 0), L(1, 2, 2), C(2, 0, 3), R(1, 0, 1))
        self.assertEqual(trans(0, 0, 2, row), quotient([1], [6, 0, 1]))

    def test_large_numbers(self):
        q = 1000000
        row = net(2, V(1, 0), R(1, 2, q), C(2, 0, q))
        self.assertEqual(trans(0, 0, 2, row), quotient([1], [q * q, 1]))
        row = net(2, V(1, 0), R(1, 2, Fraction(1, q)), C(2, 0, Fraction(1, q)))
        self.assertEqual(trans(0, 0, 2, row), quotient([q * q], [1, q * q]))

    def test_the_highest_power(self):
        parts = [R(1, 2, 1)] + [C(2, 0, k) for k in range(1, 9)]
        self.assertEqual(trans(0, 0, 2, net(2, V(1, 0), *parts)), quotient([1], [36, 1]))
        ladder = net(5, V(1, 0), L(1, 2, 1), C(2, 0, 1), L(2, 3, 1), C(3, 0, 1), L(3, 4, 1), C(4, 0, 1),
                     L(4, 5, 1), C(5, 0, 1), R(5, 0, 1))
        self.assertEqual(trans(0, 0, 5, ladder), quotient([1], [1, 1, 7, 6, 15, 10, 10, 4, 1]))


if __name__ == "__main__":
    unittest.main()
