"""same: networks that are the same though built otherwise, networks that differ in little, an equivalence."""

import unittest
from fractions import Fraction

from tests.helper import (C, COILS, D, Dice, E, F, G, H, I, L, M, NUMBERS, O, R, S, T, V, WIRING, net, operating_states,
                          part, rows_of, solution_at, thrown_net)
from wirequotients.networks import port, same, trans

HALF = Fraction(1, 2)


class Compared(unittest.TestCase):
    def alike(self, one, two, nodes_one, nodes_two=None):
        self.compare(one, two, nodes_one, nodes_two, [0, 1])

    def unlike(self, one, two, nodes_one, nodes_two=None):
        self.compare(one, two, nodes_one, nodes_two, [0, 0])

    def compare(self, one, two, nodes_one, nodes_two, expected):
        there = nodes_one if nodes_two is None else nodes_two
        self.assertEqual(same(one, two, nodes_one, there), expected, (one, two))
        self.assertEqual(same(two, one, there, nodes_one), expected, (two, one))


class BuiltOtherwise(Compared):
    def test_in_a_row(self):
        self.alike(net(1, R(1, 0, 3)), net(2, R(1, 2, 1), R(2, 0, 2)), [1])
        self.alike(net(1, R(1, 0, 3)), net(3, R(1, 3, 1), R(2, 3, HALF), R(2, 0, Fraction(3, 2))), [1])
        self.alike(net(1, L(1, 0, 3)), net(2, L(1, 2, 1), L(2, 0, 2)), [1])
        self.unlike(net(1, R(1, 0, 3)), net(2, R(1, 2, 1), R(2, 0, 3)), [1])

    def test_side_by_side(self):
        self.alike(net(1, R(1, 0, 1)), net(1, R(1, 0, 2), R(0, 1, 2)), [1])
        self.alike(net(1, R(1, 0, 6), C(1, 0, 5)), net(1, C(1, 0, 2), R(1, 0, 6), C(0, 1, 3)), [1])
        self.unlike(net(1, R(1, 0, 1)), net(1, R(1, 0, 2), R(0, 1, 3)), [1])

    def test_star_and_triangle(self):
        star = net(4, R(1, 4, 1), R(2, 4, 2), R(3, 4, 3), R(3, 0, 7))
        triangle = net(3, R(1, 2, Fraction(11, 3)), R(2, 3, 11), R(3, 1, Fraction(11, 2)), R(3, 0, 7))
        for nodes in ([1], [2], [3], [1, 2], [3, 1], [1, 2, 3], [2, 3, 1], [3, 2, 0]):
            self.alike(star, triangle, nodes)
        self.unlike(star, triangle, [1, 2, 3], [2, 1, 3])
        other = net(3, R(1, 2, Fraction(11, 3)), R(2, 3, 11), R(3, 1, Fraction(11, 3)), R(3, 0, 7))
        self.unlike(star, other, [1, 2, 3])

    def test_a_star_of_coils(self):
        star = net(4, L(1, 4, 1), L(2, 4, 2), L(3, 4, 3), R(3, 0, 7), R(1, 0, 1), R(2, 0, 1))
        with_resistors = net(4, R(1, 4, 1), R(2, 4, 2), R(3, 4, 3), R(3, 0, 7), R(1, 0, 1), R(2, 0, 1))
        self.unlike(star, with_resistors, [1, 2, 3])
        self.alike(star, net(4, R(2, 0, 1), L(4, 3, 3), L(4, 2, 2), L(1, 4, 1), R(1, 0, 1), R(0, 3, 7)), [1, 2, 3])

    def test_in_another_order(self):
        parts = [R(1, 2, 2), C(2, 0, 3), L(2, 3, 5), R(3, 0, 7), I(0, 1, 4)]
        one = net(3, *parts)
        for turn in range(5):
            two = net(3, *parts[turn:], *parts[:turn])
            self.alike(one, two, [1, 2, 3])
            self.alike(one, net(3, *reversed(parts)), [3, 1])

    def test_other_numbers_for_inner_nodes(self):
        one = net(3, R(1, 2, 2), C(2, 0, 3), L(2, 3, 5), R(3, 0, 7))
        two = net(3, R(1, 3, 2), C(3, 0, 3), L(3, 2, 5), R(2, 0, 7))
        self.alike(one, two, [1])
        self.alike(one, two, [1, 2, 3], [1, 3, 2])
        self.unlike(one, two, [1, 2, 3])
        self.alike(one, net(8, R(8, 3, 2), C(3, 0, 3), L(3, 5, 5), R(5, 0, 7), *[R(node, 0, 1) for node in (1, 2, 4, 6, 7)]),
                   [1, 2], [8, 3])

    def test_sources(self):
        # A voltage behind a resistor, a current beside it.
        self.alike(net(2, V(2, 0, 6), R(2, 1, 3)), net(1, I(0, 1, 2), R(1, 0, 3)), [1])
        self.unlike(net(2, V(2, 0, 6), R(2, 1, 3)), net(1, I(1, 0, 2), R(1, 0, 3)), [1])
        self.unlike(net(2, V(2, 0, 6), R(2, 1, 3)), net(1, R(1, 0, 3)), [1])
        self.alike(net(2, V(2, 0, 0), R(2, 1, 3)), net(1, R(1, 0, 3)), [1])

    def test_transformer(self):
        self.alike(net(2, T(1, 0, 2, 0, 3), R(2, 0, 2)), net(1, R(1, 0, 18)), [1])
        self.alike(net(2, T(1, 0, 2, 0, -3), L(2, 0, 2)), net(1, L(1, 0, 18)), [1])

    def test_coupled_coils(self):
        self.alike(net(2, L(1, 2, 2), L(2, 0, 3), M(0, 1, 1)), net(1, L(1, 0, 7)), [1])
        self.alike(net(2, L(1, 2, 2), L(2, 0, 3), M(0, 1, -1)), net(1, L(1, 0, 3)), [1])
        self.alike(net(2, L(1, 0, 2), L(2, 0, 3), M(0, 1, 1)), net(3, L(1, 3, 1), L(2, 3, 2), L(3, 0, 1)), [1, 2])
        self.alike(net(2, L(1, 0, 2), L(2, 0, 8), M(0, 1, 4)), net(2, L(1, 0, 2), T(2, 0, 1, 0, 2)), [1, 2])

    def test_driven_elements(self):
        self.alike(net(1, R(1, 0, 1), G(1, 0, 1, 0, 1)), net(1, R(1, 0, HALF)), [1])
        self.alike(net(1, R(1, 0, 1), F(1, 0, 0, 1)), net(1, R(1, 0, HALF)), [1])
        self.alike(net(2, R(1, 2, 1), H(2, 0, 0, 4)), net(1, R(1, 0, 5)), [1])
        self.alike(net(2, R(1, 2, 1), E(2, 0, 1, 0, HALF)), net(1, R(1, 0, 2)), [1])

    def test_amplifier(self):
        # A follower, and one that is made by E.
        self.alike(net(2, R(1, 0, 3), O(2, 0, 1, 2)), net(2, R(1, 0, 3), E(2, 0, 1, 0, 1)), [1, 2])

    def test_switches(self):
        self.alike(net(2, R(1, 2, 1), S(2, 0, 1), R(1, 0, 1)), net(1, R(1, 0, HALF)), [1])
        self.alike(net(2, R(1, 2, 1), S(2, 0, 0), R(1, 0, 1)), net(1, R(1, 0, 1)), [1])

    def test_a_part_that_is_not_seen(self):
        # What hangs on nothing else changes the determinant, not the z's.
        self.alike(net(2, R(1, 0, 1), R(2, 0, 1), C(2, 0, 1)), net(1, R(1, 0, 1)), [1])
        # A coil and a capacitor, each behind a resistor of 1, side by side: together they are a resistor of 1.
        self.alike(net(3, R(1, 2, 1), L(2, 0, 1), R(1, 3, 1), C(3, 0, 1)), net(1, R(1, 0, 1)), [1])
        self.unlike(net(3, R(1, 2, 1), L(2, 0, 1), R(1, 3, 1), C(3, 0, 2)), net(1, R(1, 0, 1)), [1])


class Diodes(Compared):
    def test_on_it_is_a_source_off_nothing(self):
        self.alike(net(1, R(1, 0, 2), I(0, 1, 3), D(1, 0, 1)), net(1, V(1, 0, 1)), [1])
        self.alike(net(1, R(1, 0, 2), I(0, 1, 3), D(1, 0, 7)), net(1, R(1, 0, 2), I(0, 1, 3)), [1])
        self.unlike(net(1, R(1, 0, 2), I(0, 1, 3), D(1, 0, 1)), net(1, R(1, 0, 2), I(0, 1, 3)), [1])

    def test_a_diodes_number_counts_at_the_operating_point(self):
        self.unlike(net(1, R(1, 0, 2), I(0, 1, 3), D(1, 0, 1)), net(1, R(1, 0, 2), I(0, 1, 3), D(1, 0, 2)), [1])

    def test_what_is_put_in_turns_no_diode(self):
        self.alike(net(1, R(1, 0, 2), D(1, 0, 1)), net(1, R(1, 0, 2)), [1])
        self.alike(net(1, R(1, 0, 2), D(1, 0, 1)), net(1, R(1, 0, 2), D(1, 0, 0)), [1])


class DifferInOne(Compared):
    def test_in_one_z_alone(self):
        plain = net(2, R(1, 0, 1), R(2, 0, 1))
        for into, out in ((1, 2), (2, 1)):
            other = net(2, R(1, 0, 1), R(2, 0, 1), G(out, 0, into, 0, 1))
            self.unlike(plain, other, [1, 2])
            self.unlike(plain, other, [2, 1])
            self.alike(plain, other, [1])
            self.alike(plain, other, [2])
        self.assertEqual(port(0, 0, 1, plain, [1, 0, 2, 0]), [0, 1, 0, 1, 1])
        third = net(3, R(1, 0, 1), R(2, 0, 1), R(3, 0, 1))
        for node in (1, 2, 3):
            numbers = [1, 1, 1]
            numbers[node - 1] = 2
            other = net(3, *[R(k + 1, 0, numbers[k]) for k in range(3)])
            self.unlike(third, other, [1, 2, 3])
            self.alike(third, other, [k for k in (1, 2, 3) if k != node])

    def test_in_each_z_of_three_nodes(self):
        ends = [R(1, 0, 1), R(2, 0, 1), R(3, 0, 1)]
        for into in (1, 2, 3):
            for out in (1, 2, 3):
                if into != out:
                    self.unlike(net(3, *ends), net(3, *ends, G(out, 0, into, 0, 1)), [1, 2, 3])
                    self.alike(net(3, *ends), net(3, *ends, G(out, 0, into, 0, 1)), [into])

    def test_at_some_s_alone(self):
        # At s = 0 both are the same resistor.
        self.unlike(net(1, R(1, 0, 1)), net(1, R(1, 0, 1), C(1, 0, 1)), [1])
        self.unlike(net(1, R(1, 0, 1)), net(2, R(1, 2, 1), L(2, 0, 1)), [1])
        self.unlike(net(1, R(1, 0, 1), C(1, 0, 1)), net(1, R(1, 0, 1), C(1, 0, (1000000, 999999))), [1])

    def test_in_a_voltage_at_the_operating_point_alone(self):
        def held(*voltages):
            parts = []
            for place, q in enumerate(voltages):
                parts += [R(place + 1, 0, 2), I(0, place + 1, q)]
            return net(len(voltages), *parts)

        self.alike(held(1), held(1), [1])
        self.unlike(held(1), held(2), [1])
        self.unlike(held(0), held((1, 1000000)), [1])
        self.unlike(held(1), held(-1), [1])
        for place in range(3):
            numbers = [1, 2, 3]
            numbers[place] = 9
            self.unlike(held(1, 2, 3), held(*numbers), [1, 2, 3])
            self.alike(held(1, 2, 3), held(*numbers), [node for node in (1, 2, 3) if node != place + 1])
        self.assertEqual(trans(1, 0, 1, held(1)), trans(1, 0, 1, held(2)))

    def test_the_nodes_order_counts(self):
        row = net(2, R(1, 0, 1), R(2, 0, 2))
        self.alike(row, row, [1, 2])
        self.unlike(row, row, [1, 2], [2, 1])


class GroundAndTwice(Compared):
    ONE = net(2, R(1, 0, 1), R(1, 2, 2), R(2, 0, 3), C(2, 0, 1), V(1, 0, 5))
    TWO = net(1, R(1, 0, 9))

    def test_at_the_ground_all_are_the_same(self):
        for nodes in ([0], [0, 0], [0, 0, 0]):
            self.alike(self.ONE, self.TWO, nodes)
            self.alike(self.ONE, self.ONE, nodes)

    def test_the_ground_beside_others(self):
        self.alike(net(1, R(1, 0, 3)), net(2, R(1, 2, 1), R(2, 0, 2)), [0, 1])
        self.alike(net(1, R(1, 0, 3)), net(2, R(1, 2, 1), R(2, 0, 2)), [1, 0, 1])
        self.unlike(net(1, R(1, 0, 3)), net(2, R(1, 2, 1), R(2, 0, 2)), [0, 1], [1, 0])
        self.unlike(net(1, R(1, 0, 3)), net(1, R(1, 0, 4)), [0, 1])

    def test_held_nodes_are_like_the_ground(self):
        self.alike(net(1, V(1, 0, 0)), self.TWO, [1], [0])
        self.alike(net(1, S(1, 0, 1), R(1, 0, 1)), self.TWO, [1], [0])
        self.unlike(net(1, V(1, 0, 1)), self.TWO, [1], [0])

    def test_one_node_twice(self):
        self.alike(self.ONE, self.ONE, [2, 2])
        self.alike(self.ONE, self.ONE, [2, 2, 1])
        self.unlike(self.ONE, self.ONE, [2, 2], [2, 1])
        # Nodes that a closed switch joins are as one.
        self.alike(net(2, R(1, 0, 3), S(1, 2, 1)), net(1, R(1, 0, 3)), [1, 2], [1, 1])
        self.unlike(net(2, R(1, 0, 3), R(1, 2, 1)), net(1, R(1, 0, 3)), [1, 2], [1, 1])


class Equivalence(Compared):
    """Promise 4."""

    FAMILIES = [
        [net(1, R(1, 0, 3)), net(2, R(1, 2, 1), R(2, 0, 2)), net(1, R(1, 0, 6), R(1, 0, 6)), net(2, R(1, 0, 3), R(2, 0, 5))],
        [net(1, R(1, 0, 3), I(0, 1, 2)), net(2, V(2, 0, 6), R(2, 1, 3)), net(2, R(1, 2, 3), V(0, 2, -6), C(2, 0, 1))],
        [net(1, R(1, 0, 3), C(1, 0, 4)), net(1, C(0, 1, 3), R(1, 0, 6), R(0, 1, 6), C(1, 0, 1))],
        [net(1, L(1, 0, 7)), net(2, L(1, 2, 2), L(2, 0, 3), M(0, 1, 1)), net(2, T(2, 0, 1, 0, 2), L(2, 0, 28))],
        [net(1, V(1, 0, 0)), net(1, S(1, 0, 1)), net(2, R(2, 0, 1), S(2, 1, 1), S(0, 2, 1), I(1, 2, 5))],
        [net(1, V(1, 0, 1)), net(1, R(1, 0, 2), I(0, 1, 3), D(1, 0, 1))],
    ]

    def test_within_a_family_and_across(self):
        for place, family in enumerate(self.FAMILIES):
            for one in family:
                for other_place, other_family in enumerate(self.FAMILIES):
                    for two in other_family:
                        self.assertEqual(same(one, two, [1], [1]), [0, int(place == other_place)], (one, two))

    def check_thrown(self, seed, wiring, turns):
        dice = Dice(seed)
        for turn in range(turns):
            row = thrown_net(dice, wiring)
            if operating_states(row) is None:
                continue
            nodes = [dice.below(row[0] + 1) for place in range(1 + dice.below(3))]
            others = [row, shuffled(dice, row), altered(dice, row)]
            others.append(altered(dice, others[1]))
            others = [other for other in others if operating_states(other) is not None]
            seen = [seen_at(other, nodes) for other in others]
            answers = {}
            for p, one in enumerate(others):
                for q, two in enumerate(others):
                    answers[(p, q)] = same(one, two, nodes, nodes)
                    self.assertEqual(answers[(p, q)], [0, int(seen[p] == seen[q])], (one, two, nodes))
            for (p, q), told in answers.items():
                self.assertEqual(told, answers[(q, p)])
                self.assertEqual(answers[(p, p)], [0, 1])
                for r in range(len(others)):
                    if told == [0, 1] and answers[(q, r)] == [0, 1]:
                        self.assertEqual(answers[(p, r)], [0, 1])

    def test_thrown_networks(self):
        self.check_thrown(47, WIRING, 24)

    def test_thrown_networks_of_coils(self):
        self.check_thrown(53, COILS, 8)

    def test_shuffled_networks_are_the_same(self):
        dice = Dice(59)
        count = 0
        for turn in range(60):
            row = thrown_net(dice, WIRING)
            if operating_states(row) is not None and [numbers[0] for numbers in rows_of(row)].count(13) < 2:
                count += 1
                nodes = [dice.below(row[0] + 1) for place in range(1 + dice.below(3))]
                self.alike(row, shuffled(dice, row), nodes)
        self.assertGreater(count, 10)


def shuffled(dice, row):
    """The same elements in another order, those that refer to others behind all that don't."""
    parts = rows_of(row)
    first = [k for k, numbers in enumerate(parts) if numbers[0] not in (3, 8, 9)]
    order = []
    while first:
        order.append(first.pop(dice.below(len(first))))
    order += [k for k, numbers in enumerate(parts) if numbers[0] in (3, 8, 9)]
    now = {k: place for place, k in enumerate(order)}
    result = [row[0]]
    for k in order:
        numbers = list(parts[k])
        if numbers[0] in (8, 9):
            numbers[3] = now[numbers[3]]
        if numbers[0] == 3:
            numbers[1:3] = [now[numbers[1]], now[numbers[2]]]
        result += numbers
    return result


def altered(dice, row):
    """One resistor's or capacitor's number changed."""
    parts = rows_of(row)
    k = dice.one_of([k for k, numbers in enumerate(parts) if numbers[0] in (0, 1)])
    numbers = parts[k]
    q = dice.one_of(NUMBERS)
    return row[:1 + 7 * k] + part(numbers[0], numbers[1:5], q) + row[8 + 7 * k:]


POINTS = [Fraction(n, d) for n, d in ((1, 1), (2, 1), (3, 1), (7, 3), (5, 1), (11, 2), (1, 7), (3, 8), (9, 5), (13, 1))]


def seen_at(row, nodes):
    """What's compared, reckoned by fractions: voltages at the operating point, and every z at some s."""
    states = operating_states(row)
    point = solution_at(row, 0, states, None)
    seen = [point.get(("v", node), 0) for node in nodes]
    for into in nodes:
        wider = row + I(0, into)
        for s in POINTS:
            solution = solution_at(wider, s, states, len(rows_of(row)))
            seen.append(solution and [solution.get(("v", node), 0) for node in nodes])
    return seen


if __name__ == "__main__":
    unittest.main()
