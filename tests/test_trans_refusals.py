"""What trans refuses, with the edges of each refusal, and which refusal comes first."""

import unittest
from fractions import Fraction

from tests.helper import C, D, E, F, G, H, I, L, M, MOST, O, R, S, T, V, net, part, quotient
from wirequotients.networks import trans

PLAIN = [V(1, 0), R(1, 0, 2)]


def answer(row):
    return trans(0, 0, 1, row)


class NoRow(unittest.TestCase):
    """-1"""

    def taken(self, row):
        self.assertEqual(answer(row)[0], 0, row)

    def refused(self, row):
        self.assertEqual(answer(row), [-1], row)

    def test_no_numbers_at_all(self):
        self.refused([])

    def test_the_last_node(self):
        self.taken(net(1, *PLAIN))
        self.taken(net(8, *PLAIN, *[R(node, 0, 1) for node in range(2, 9)]))
        for last_node in (0, 9, -1, MOST, -MOST):
            self.refused(net(last_node, *PLAIN))
            self.refused([last_node])

    def test_sevens(self):
        row = net(1, *PLAIN)
        for length in range(2, len(row)):
            if length != 8:
                self.refused(row[:length])
        for more in range(1, 7):
            self.refused(row + [0, 1, 0, 0, 0, 1, 1][:more])
        self.taken(row + [0, 1, 0, 0, 0, 1, 1])

    def test_no_elements_is_a_row(self):
        self.assertEqual(answer([1]), [-3])
        self.assertEqual(answer([8]), [-3])

    def test_ten_elements(self):
        self.taken(net(1, V(1, 0), *[R(1, 0, 2)] * 9))
        self.refused(net(1, V(1, 0), *[R(1, 0, 2)] * 10))
        self.refused(net(1, V(1, 0), *[R(1, 0, 2)] * 16))
        self.refused(([1] + [0] * 119))

    def test_three_diodes(self):
        self.taken(net(1, *PLAIN, *[D(0, 1, 1)] * 3))
        self.refused(net(1, *PLAIN, *[D(0, 1, 1)] * 4))
        self.refused(net(1, D(0, 1, 1), V(1, 0), *[D(0, 1, 1)] * 3))

    def test_kinds(self):
        self.taken(net(1, *PLAIN, part(0, (1, 0), 1)))
        self.taken(net(1, *PLAIN, part(13, (0, 1), 1)))
        for kind in (14, -1, 15, 63, MOST, -MOST):
            self.refused(net(1, *PLAIN, part(kind, (1, 0), 1)))

    def test_places(self):
        for place in range(1, 5):
            for number in (-1, 64, MOST, -MOST):
                for kind in range(14):
                    numbers = part(kind, (0, 0, 0, 0), 1)
                    numbers[place] = number
                    self.refused(net(1, *PLAIN, numbers))

    def test_places_that_are_not_used_go_up_to_63(self):
        for c in (0, 63):
            for d in (0, 63):
                self.taken(net(1, *PLAIN, part(0, (1, 0, c, d), 1)))
                self.taken(net(1, *PLAIN, part(1, (1, 0, c, d), 1)))
                self.taken(net(1, *PLAIN, part(5, (1, 0, c, d), 1)))
                self.taken(net(1, *PLAIN, part(12, (1, 0, c, d), 0)))
                self.taken(net(1, *PLAIN, part(13, (0, 1, c, d), 2)))
        self.taken(net(1, *PLAIN, part(9, (1, 0, 1, 63), 1)))
        self.taken(net(2, *PLAIN, part(8, (2, 0, 1, 63), 1)))
        self.taken(net(3, *PLAIN, L(2, 0, 1), L(3, 0, 1), part(3, (2, 3, 63, 63), 1), R(2, 0, 1), R(3, 0, 1)))

    def test_numerators(self):
        for top in (1000000, -1000000):
            self.taken(net(1, *PLAIN, part(5, (1, 0), (top, 1))))
        for top in (1000001, -1000001, MOST, -MOST):
            self.refused(net(1, *PLAIN, part(5, (1, 0), (top, 1))))

    def test_denominators(self):
        for bottom in (1, 1000000):
            self.taken(net(1, *PLAIN, part(5, (1, 0), (1, bottom))))
        for bottom in (0, -1, -1000000, 1000001, MOST, -MOST):
            self.refused(net(1, *PLAIN, part(5, (1, 0), (1, bottom))))
            self.refused(net(1, *PLAIN, part(11, (1, 0, 1, 0), (0, bottom))))


class WrongNode(unittest.TestCase):
    """-2, an element, 1"""

    def test_two_nodes(self):
        for kind in (0, 1, 2, 4, 5, 8, 9, 12, 13):
            for places in ((3, 0, 1), (0, 3, 1), (63, 63, 1)):
                self.assertEqual(answer(net(2, *PLAIN, part(kind, places, 1))), [-2, 2, 1])

    def test_four_nodes(self):
        for kind in (6, 7, 10, 11):
            for place in range(4):
                places = [0, 0, 0, 0]
                places[place] = 3
                q = 0 if kind == 11 else 1
                self.assertEqual(answer(net(2, *PLAIN, part(kind, places, q))), [-2, 2, 1])
                places[place] = 63
                self.assertEqual(answer(net(8, *PLAIN, part(kind, places, q))), [-2, 2, 1])

    def test_the_last_node_is_one(self):
        row = net(2, V(1, 0), R(1, 2, 2), R(2, 0, 2), E(0, 2, 2, 2, 1), G(2, 2, 2, 2, 1))
        self.assertEqual(answer(row)[0], 0)

    def test_a_couplings_coils_may_be_numbered_above_the_last_node(self):
        row = net(3, V(1, 0), R(1, 2, 1), R(3, 0, 1), R(1, 0, 1), L(2, 0, 2), L(3, 0, 3), M(4, 5, 1))
        self.assertEqual(trans(0, 0, 3, row), quotient([1, 0], [5, 5, 1]))

    def test_a_followed_element_may_be_numbered_above_the_last_node(self):
        row = net(1, *PLAIN, R(1, 0, 2), F(1, 0, 2, 1))
        self.assertEqual(trans(0, 1, 3, row), quotient([1], [2]))


class WrongNumber(unittest.TestCase):
    """-2, an element, 2"""

    def wrong(self, *numbers):
        for element in numbers:
            self.assertEqual(answer(net(1, *PLAIN, element)), [-2, 2, 2], element)

    def right(self, *numbers):
        for element in numbers:
            self.assertIn(answer(net(1, *PLAIN, element))[0], (0, -4), element)

    def test_resistor_capacitor_coil(self):
        small = Fraction(1, 1000000)
        for kind in (R, C, L):
            self.wrong(kind(1, 0, 0), kind(1, 0, -1), kind(1, 0, -small), kind(1, 0, (0, 5)))
            self.right(kind(1, 0, small), kind(1, 0, 1000000))

    def test_sources_and_driven_elements_may_have_any(self):
        for q in (0, -1, 1, 1000000, -1000000, Fraction(-1, 1000000)):
            self.right(V(1, 0, q), I(1, 0, q), E(1, 0, 1, 0, q), G(1, 0, 1, 0, q), H(1, 0, 1, q), F(1, 0, 1, q))

    def test_transformer(self):
        self.wrong(T(1, 0, 1, 0, 0), T(1, 0, 1, 0, (0, 9)))
        self.right(T(1, 0, 1, 0, 1), T(1, 0, 1, 0, -1), T(1, 0, 1, 0, Fraction(-1, 1000000)))

    def test_amplifier(self):
        self.wrong(part(11, (1, 0, 1, 0), 1), part(11, (1, 0, 1, 0), -1), part(11, (1, 0, 1, 0), (1, 1000000)))
        self.right(part(11, (1, 0, 1, 0), 0), part(11, (1, 0, 1, 0), (0, 7)))

    def test_switch(self):
        self.wrong(S(1, 0, 2), S(1, 0, -1), S(1, 0, Fraction(1, 2)), S(1, 0, Fraction(3, 2)), S(1, 0, (-3, 3)))
        self.right(S(1, 0, 0), S(1, 0, 1), S(1, 0, (4, 4)), S(1, 0, (0, 4)))

    def test_diode(self):
        self.wrong(D(1, 0, -1), D(1, 0, Fraction(-1, 1000000)))
        self.right(D(1, 0, 0), D(1, 0, Fraction(1, 1000000)), D(1, 0, 1000000))

    def coupled(self, one, other, q):
        row = net(3, V(1, 0), R(1, 2, 1), L(2, 0, one), L(3, 0, other), R(3, 0, 1), M(2, 3, q))
        return answer(row)

    def test_coupling_by_more_than_the_product(self):
        self.assertEqual(self.coupled(2, 8, 4)[0], 0)
        self.assertEqual(self.coupled(2, 8, -4)[0], 0)
        for q in (5, -5, Fraction(400001, 100000), Fraction(-400001, 100000)):
            self.assertEqual(self.coupled(2, 8, q), [-2, 5, 2])

    def test_coupling_of_fractions(self):
        half = Fraction(1, 2)
        self.assertEqual(self.coupled(half, half, half)[0], 0)
        self.assertEqual(self.coupled(half, half, Fraction(2, 3)), [-2, 5, 2])
        self.assertEqual(self.coupled(Fraction(1, 3), Fraction(4, 3), Fraction(2, 3))[0], 0)
        self.assertEqual(self.coupled(Fraction(1, 3), Fraction(4, 3), Fraction(3, 4)), [-2, 5, 2])
        self.assertEqual(self.coupled(Fraction(1, 3), Fraction(4, 3), Fraction(5, 8))[0], 0)


class WrongReference(unittest.TestCase):
    """-2, an element, 3"""

    COILS = [V(1, 0), R(1, 2, 1), L(2, 0, 4), L(3, 0, 4), R(3, 0, 1)]

    def test_followed_elements_stand_before(self):
        for kind in (H, F):
            for x in (3, 4, 5, 63):
                self.assertEqual(answer(net(2, *PLAIN, R(2, 0, 1), kind(2, 0, x, 1), R(2, 0, 1))), [-2, 3, 3])
            for x in (0, 1, 2):
                self.assertNotEqual(answer(net(2, *PLAIN, R(2, 0, 1), kind(2, 0, x, 2), R(2, 0, 1)))[0], -2)

    def test_a_coupling_is_not_followed(self):
        for kind in (H, F):
            self.assertEqual(answer(net(3, *self.COILS, M(2, 3, 1), kind(3, 0, 5, 1))), [-2, 6, 3])
            self.assertEqual(answer(net(3, *self.COILS, M(2, 3, 1), kind(3, 0, 4, 1)))[0], -4 if kind == H else 0)

    def test_every_other_kind_is_followed(self):
        followed = [R(2, 0, 1), C(2, 0, 1), L(2, 0, 1), V(2, 0, 1), I(2, 0, 1), E(2, 0, 1, 0, 1), G(2, 0, 1, 0, 1),
                    H(2, 0, 1, 1), F(2, 0, 1, 1), T(2, 0, 1, 0, 1), O(2, 0, 1, 0), S(2, 0, 1), D(2, 0, 1)]
        for element in followed:
            row = net(3, *PLAIN, element, F(0, 3, 2, 1), R(3, 0, 1))
            self.assertNotEqual(answer(row)[0], -2, element)

    def test_coupled_are_coils_before(self):
        for x, y in ((2, 4), (4, 2), (2, 0), (1, 3), (5, 2), (2, 5), (2, 6), (6, 3), (63, 2), (2, 63)):
            self.assertEqual(answer(net(3, *self.COILS, M(x, y, 1), L(3, 0, 4))), [-2, 5, 3], (x, y))

    def test_the_same_coil_twice(self):
        for x in (2, 3):
            self.assertEqual(answer(net(3, *self.COILS, M(x, x, 1))), [-2, 5, 3])

    def test_a_pair_twice(self):
        for x, y in ((2, 3), (3, 2)):
            self.assertEqual(answer(net(3, *self.COILS, M(2, 3, 1), M(x, y, 1))), [-2, 6, 3])
            self.assertEqual(answer(net(3, *self.COILS, M(3, 2, 1), R(3, 0, 1), M(x, y, 1))), [-2, 7, 3])

    def test_other_pairs_of_the_same_coils(self):
        row = net(4, *self.COILS, L(4, 0, 4), R(4, 0, 1), M(2, 3, 1), M(5, 3, 1), M(2, 5, 1))
        self.assertEqual(answer(row)[0], 0)

    def test_places_of_another_kind_are_no_pair(self):
        row = net(3, *self.COILS, R(2, 3, 1), M(2, 3, 1))
        self.assertEqual(answer(row)[0], 0)


class WhichFaultFirst(unittest.TestCase):
    def test_within_an_element(self):
        self.assertEqual(answer(net(1, *PLAIN, R(2, 0, 0))), [-2, 2, 1])
        self.assertEqual(answer(net(1, *PLAIN, T(1, 0, 0, 2, 0))), [-2, 2, 1])
        self.assertEqual(answer(net(1, *PLAIN, part(11, (1, 0, 2, 0), 1))), [-2, 2, 1])
        self.assertEqual(answer(net(1, *PLAIN, H(0, 2, 2, 1))), [-2, 2, 1])
        self.assertEqual(answer(net(1, *PLAIN, M(0, 1, 1000000))), [-2, 2, 3])
        self.assertEqual(answer(net(1, *PLAIN, L(1, 0, 1), M(2, 2, 2))), [-2, 3, 3])
        coils = WrongReference.COILS
        self.assertEqual(answer(net(3, *coils, M(2, 3, 1), M(2, 3, 5))), [-2, 6, 3])

    def test_the_first_element_comes_first(self):
        self.assertEqual(answer(net(1, R(1, 0, -1), R(2, 0, 1), H(1, 0, 9, 1))), [-2, 0, 2])
        self.assertEqual(answer(net(1, H(1, 0, 0, 1), R(1, 0, -1), R(2, 0, 1))), [-2, 0, 3])
        self.assertEqual(answer(net(1, *PLAIN, R(2, 0, 1), R(1, 0, -1))), [-2, 2, 1])
        self.assertEqual(answer(net(1, *[R(1, 0, 1)] * 9, R(1, 0, 0))), [-2, 9, 2])
        coils = WrongReference.COILS
        self.assertEqual(answer(net(3, *coils, M(2, 3, 5), M(2, 2, 1))), [-2, 5, 2])


class NothingOfTheSort(unittest.TestCase):
    """-3"""

    ROW = net(3, V(1, 0, 5), R(1, 2, 1), L(2, 0, 2), L(3, 0, 3), R(3, 0, 1), M(2, 3, 1), I(0, 3, 2))

    def test_sources(self):
        for source in (0, 6):
            self.assertEqual(trans(source, 0, 1, self.ROW)[0], 0)
        for source in (1, 2, 3, 4, 5, 7, 8, MOST):
            self.assertEqual(trans(source, 0, 1, self.ROW), [-3])

    def test_no_other_kind_is_a_source(self):
        others = [C(1, 0, 1), E(0, 0, 1, 0, 1), G(1, 0, 1, 0, 1), H(0, 0, 1, 1), F(1, 0, 1, 1), T(1, 0, 1, 0, 1),
                  O(1, 0, 1, 0), S(1, 0, 1), S(1, 0, 0), D(1, 0, 1)]
        for element in others:
            self.assertEqual(trans(2, 0, 1, net(1, *PLAIN, element)), [-3], element)

    def test_nodes(self):
        for node in range(4):
            self.assertEqual(trans(0, 0, node, self.ROW)[0], 0)
        for node in (4, 5, 63, MOST):
            self.assertEqual(trans(0, 0, node, self.ROW), [-3])

    def test_currents_and_voltages(self):
        for what in (1, 2):
            for k in (0, 1, 2, 3, 4, 6):
                self.assertEqual(trans(0, what, k, self.ROW)[0], 0)
            for k in (5, 7, 8, MOST):
                self.assertEqual(trans(0, what, k, self.ROW), [-3])

    def test_whats(self):
        for what in (3, 4, MOST):
            for k in (0, 1, 5, 7):
                self.assertEqual(trans(0, what, k, self.ROW), [-3])


class NoOperatingPoint(unittest.TestCase):
    """-4"""

    def none(self, *rows):
        for row in rows:
            self.assertEqual(answer(row), [-4], row)

    def test_laws_that_are_not_regular_at_zero(self):
        self.none(
            net(2, V(1, 0), R(1, 0, 1)),
            net(2, V(1, 0), C(1, 2, 1)),
            net(1, V(1, 0), L(1, 0, 1)),
            net(1, V(1, 0), V(1, 0)),
            net(1, V(1, 1), R(1, 0, 1)),
            net(2, I(1, 2), I(2, 1), R(1, 0, 1)),
            net(1, V(1, 0), S(1, 0, 1)),
            net(2, V(1, 0), S(1, 2, 0)),
            net(1, V(1, 0), O(1, 0, 0, 0), R(1, 0, 1)),
            net(1, V(1, 0), E(1, 0, 1, 0, 1)),
        )

    def test_no_state_of_the_diodes_holds(self):
        # Off, node 1 hangs free; on, the current runs backwards.
        self.none(net(1, I(1, 0, 1), D(1, 0, 1)))
        self.assertEqual(answer(net(1, I(1, 0, -1), D(1, 0, 1))), quotient([0], [1]))
        self.assertEqual(answer(net(1, I(1, 0, 0), D(1, 0, 1))), quotient([0], [1]))
        # Off, the voltage is above the diode's; on, it stands against the source's.
        self.none(net(1, V(1, 0, 2), D(1, 0, 1)))
        self.assertEqual(answer(net(1, V(1, 0, 1), D(1, 0, 1))), quotient([1], [1]))
        self.none(net(1, V(1, 0, 2), D(1, 0, 3), D(1, 0, 4), D(1, 0, 1)))

    def test_the_point_is_sought_with_the_numbers_as_they_stand(self):
        # Driven by either source the diode's states would hold; with both as they stand none does.
        self.none(net(1, I(0, 1, 1), I(1, 0, 2), D(1, 0, 0)))
        self.assertEqual(answer(net(1, I(0, 1, 2), I(1, 0, 1), D(1, 0, 0)))[0], 0)


class WhichRefusalFirst(unittest.TestCase):
    def test_no_row_before_all(self):
        self.assertEqual(trans(9, 9, 9, net(1, R(5, 0, 0), part(14, (0, 0), 1))), [-1])
        self.assertEqual(trans(MOST, MOST, MOST, []), [-1])

    def test_faults_before_what_is_asked(self):
        self.assertEqual(trans(9, 9, 9, net(1, R(1, 0, 0))), [-2, 0, 2])
        self.assertEqual(trans(0, 3, 0, net(1, V(1, 0), V(1, 0), R(2, 0, 1))), [-2, 2, 1])

    def test_what_is_asked_before_the_operating_point(self):
        row = net(1, V(1, 0), V(1, 0))
        self.assertEqual(trans(2, 0, 1, row), [-3])
        self.assertEqual(trans(0, 3, 0, row), [-3])
        self.assertEqual(trans(0, 0, 2, row), [-3])
        self.assertEqual(trans(0, 0, 0, row), [-4])
        self.assertEqual(trans(0, 1, 1, row), [-4])


if __name__ == "__main__":
    unittest.main()
