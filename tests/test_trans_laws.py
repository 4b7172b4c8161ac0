"""Promise 1: a quotient is so at every s at which the laws are regular, held against the laws reckoned at each s."""

import unittest
from fractions import Fraction
from math import gcd

from tests.helper import (COILS, WIRING, Dice, asked_of, at, operating_states, polynomials_of, quantity, rows_of,
                          solution_at, thrown_net)
from wirequotients.networks import trans

# N and D have at most ten powers each: a quotient that is right at more than twenty regular s is right at all.
POINTS = [Fraction(n, d) for n, d in ((0, 1), (1, 1), (-1, 1), (2, 1), (-2, 1), (1, 2), (-1, 2), (1, 3), (-1, 3), (3, 1),
                                      (-3, 1), (5, 1), (-5, 1), (2, 3), (-2, 3), (7, 2), (-7, 2), (1, 5), (-1, 5), (9, 1),
                                      (-9, 1), (11, 3), (-11, 3), (4, 7), (-4, 7), (13, 1))]


def remainder(left, right):
    rest = [Fraction(x) for x in left]
    while len(rest) >= len(right):
        factor = rest[0] / right[0]
        padded = list(right) + [0] * (len(rest) - len(right))
        rest = [x - factor * y for x, y in zip(rest, padded)][1:]
    while rest and rest[0] == 0:
        rest = rest[1:]
    return rest


def have_common_divisor(left, right):
    while right:
        left, right = right, remainder(left, right)
    return len(left) > 1


class TheLaws(unittest.TestCase):
    def check_form(self, top, bottom, row):
        self.assertGreater(bottom[0], 0, row)
        self.assertEqual(gcd(*top, *bottom), 1, row)
        if top == [0]:
            self.assertEqual(bottom, [1], row)
        else:
            self.assertNotEqual(top[0], 0, row)
            self.assertFalse(have_common_divisor(top, bottom), row)

    def check_source(self, row, states, source, quantities):
        answers = {}
        for what, k in quantities:
            answers[(what, k)] = polynomials_of(trans(source, what, k, row))
            self.check_form(*answers[(what, k)], row)
        regular = 0
        for s in POINTS:
            solution = solution_at(row, s, states, source)
            if solution is None:
                continue
            regular += 1
            for (what, k), (top, bottom) in answers.items():
                expected = quantity(row, solution, what, k)
                self.assertEqual(at(top, s), expected * at(bottom, s), (row, source, what, k, s))
                self.assertNotEqual(at(bottom, s), 0, (row, source, what, k, s))
        return regular

    def check_thrown(self, dice, wiring, turns):
        """How often each kind came up in networks with an operating point; 14 stands for those without."""
        kinds = {}
        for turn in range(turns):
            row = thrown_net(dice, wiring)
            states = operating_states(row)
            if states is None:
                self.assertEqual(trans(row[0], 0, 1, row), [-4], row)
                kinds[14] = kinds.get(14, 0) + 1
                continue
            for numbers in rows_of(row):
                kinds[numbers[0]] = kinds.get(numbers[0], 0) + 1
            for source, quantities in asked_of(row):
                self.assertGreater(self.check_source(row, states, source, quantities), 20, row)
        return kinds

    def test_thrown_networks(self):
        kinds = self.check_thrown(Dice(29), WIRING, 110)
        self.assertGreater(min([kinds.get(kind, 0) for kind in range(15) if kind != 3]), 1, kinds)

    def test_thrown_networks_of_coils(self):
        kinds = self.check_thrown(Dice(31), COILS, 40)
        self.assertGreater(kinds.get(3, 0), 2, kinds)

    def test_laws_that_are_not_regular_at_some_s(self):
        # The determinant is 0 at s = -1/6; the quotient there is not asked for, everywhere else it is.
        row = [2, 4, 1, 0, 0, 0, 1, 1, 0, 1, 2, 0, 0, 2, 1, 1, 2, 0, 0, 0, 3, 1]
        self.assertIsNone(solution_at(row, Fraction(-1, 6), {}, 0))
        self.assertGreater(self.check_source(row, {}, 0, [(0, 2), (1, 0), (2, 1)]), 20)


if __name__ == "__main__":
    unittest.main()
