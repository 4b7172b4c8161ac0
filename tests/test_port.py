"""port: z and y of ordinary two-ports and of odd ones, z's and y's that take each other back, diodes and sources."""

import unittest
from fractions import Fraction

from tests.helper import (C, COILS, D, Dice, E, F, G, H, I, L, M, O, R, S, T, V, WIRING, at, net, operating_states,
                          polynomials_of, quotient, rows_of, solution_at, thrown_net)
from wirequotients.networks import port

ZERO = quotient([0], [1])
PAIRS = ((0, 0), (0, 1), (1, 0), (1, 1))
POINTS = [Fraction(n, d) for n, d in ((1, 1), (-1, 3), (2, 1), (-3, 2), (5, 7), (-7, 1), (11, 3))]


def plain(x):
    return quotient([Fraction(x).numerator], [Fraction(x).denominator])


def all_four(kind, row, nodes):
    return [port(kind, r, c, row, nodes) for r, c in PAIRS]


class Ordinary(unittest.TestCase):
    PI = net(2, R(1, 0, 1), R(1, 2, 2), R(2, 0, 3))
    TEE = net(3, R(1, 3, 1), R(3, 0, 2), R(2, 3, 3))

    def test_z_of_resistors(self):
        self.assertEqual(all_four(0, self.PI, [1, 0, 2, 0]), [plain(x) for x in ("5/6", "1/2", "1/2", "3/2")])
        self.assertEqual(all_four(0, self.TEE, [1, 0, 2, 0]), [plain(x) for x in (3, 2, 2, 5)])

    def test_y_of_resistors(self):
        self.assertEqual(all_four(1, self.PI, [1, 0, 2, 0]), [plain(x) for x in ("3/2", "-1/2", "-1/2", "5/6")])
        self.assertEqual(all_four(1, self.TEE, [1, 0, 2, 0]), [plain(x) for x in ("5/11", "-2/11", "-2/11", "3/11")])

    def test_rows_and_columns_are_told_apart(self):
        # 1 put into port 0 makes -6 at port 1, the other way round nothing.
        row = net(2, R(1, 0, 2), G(2, 0, 1, 0, 1), R(2, 0, 3))
        self.assertEqual(all_four(0, row, [1, 0, 2, 0]), [plain(2), ZERO, plain(-6), plain(3)])
        self.assertEqual(all_four(1, row, [1, 0, 2, 0]), [plain("1/2"), ZERO, plain(1), plain("1/3")])

    def test_over_all_s(self):
        row = net(2, R(1, 2, 2), C(2, 0, 3))
        self.assertEqual(all_four(0, row, [1, 0, 2, 0]), [[-4]] * 4)
        row = net(2, R(1, 2, 2), C(2, 0, 3), R(2, 0, 1))
        self.assertEqual(all_four(0, row, [1, 0, 2, 0]),
                         [quotient([6, 3], [3, 1]), quotient([1], [3, 1]), quotient([1], [3, 1]), quotient([1], [3, 1])])
        self.assertEqual(all_four(1, row, [1, 0, 2, 0]),
                         [plain("1/2"), plain("-1/2"), plain("-1/2"), quotient([6, 3], [2])])

    def test_coupled_coils(self):
        row = net(2, L(1, 0, 2), L(2, 0, 3), M(0, 1, 1))
        self.assertEqual(all_four(0, row, [1, 0, 2, 0]),
                         [quotient([2, 0], [1]), quotient([1, 0], [1]), quotient([1, 0], [1]), quotient([3, 0], [1])])
        self.assertEqual(all_four(1, row, [1, 0, 2, 0]),
                         [quotient([3], [5, 0]), quotient([-1], [5, 0]), quotient([-1], [5, 0]), quotient([2], [5, 0])])

    def test_fully_coupled_coils_have_no_y(self):
        row = net(2, L(1, 0, 2), L(2, 0, 8), M(0, 1, 4))
        self.assertEqual(port(0, 0, 1, row, [1, 0, 2, 0]), quotient([4, 0], [1]))
        self.assertEqual(all_four(1, row, [1, 0, 2, 0]), [[-5]] * 4)

    def test_regular_but_at_zero(self):
        # At s = 0 the coil shuts what is put there, at every other s not.
        row = net(2, L(1, 0, 2), R(2, 0, 3))
        self.assertEqual(all_four(1, row, [1, 0, 2, 0]), [quotient([1], [2, 0]), ZERO, ZERO, plain("1/3")])

    def test_ports_between_two_nodes_off_the_ground(self):
        row = net(4, R(1, 0, 1), R(1, 2, 2), R(2, 3, 3), R(3, 4, 4), R(4, 0, 5))
        # One loop of 15 in all: across 2 the rest is 13, across 4 it's 11.
        self.assertEqual(all_four(0, row, [2, 1, 4, 3]), [plain(x) for x in ("26/15", "-8/15", "-8/15", "44/15")])


class EachKind(unittest.TestCase):
    def check(self, row, zs):
        self.assertEqual(all_four(0, row, [1, 0, 2, 0]), [plain(x) for x in zs], row)

    def test_sources(self):
        # What a V holds doesn't move, what an I carries doesn't count.
        self.check(net(3, R(1, 3, 2), V(3, 0, 9), R(3, 2, 5), I(0, 1, 7)), (2, 0, 0, 5))

    def test_driven_elements(self):
        ends = [R(1, 0, 2), R(2, 0, 3)]
        self.check(net(3, *ends, E(3, 0, 1, 0, 4), R(3, 2, 3)), (2, 0, 4, "3/2"))
        self.check(net(2, *ends, G(2, 0, 1, 0, -4)), (2, 0, 24, 3))
        self.check(net(3, *ends, H(3, 0, 0, 4), R(3, 2, 3)), (2, 0, 2, "3/2"))
        self.check(net(2, *ends, F(2, 0, 0, -4)), (2, 0, 12, 3))

    def test_transformer(self):
        self.check(net(2, R(1, 0, 6), T(1, 0, 2, 0, 2)), (6, 3, 3, "3/2"))

    def test_amplifier(self):
        self.check(net(3, R(1, 3, 2), R(3, 2, 5), O(2, 0, 0, 3)), (2, 0, -5, 0))

    def test_switches(self):
        self.check(net(2, R(1, 0, 1), R(2, 0, 1), S(1, 2, 0)), (1, 0, 0, 1))
        self.check(net(2, R(1, 0, 1), R(2, 0, 1), S(1, 2, 1)), ("1/2", "1/2", "1/2", "1/2"))

    def test_diodes(self):
        for q, zs in ((1, ("1/2", "1/2", "1/2", "1/2")), (-1, (1, 0, 0, 1)), (0, (1, 0, 0, 1))):
            self.check(net(2, R(1, 0, 1), R(2, 0, 1), D(1, 2, 0), I(0, 1, q)), zs)

    def test_a_diodes_number_is_zero(self):
        self.check(net(2, R(1, 0, 1), R(2, 0, 1), D(1, 2, 3), I(0, 1, 9)), ("1/2", "1/2", "1/2", "1/2"))


class OperatingPoint(unittest.TestCase):
    """The diodes' states are the network's own, whatever is put there."""

    def test_what_is_put_in_turns_no_diode(self):
        # Off at the network's own point; a current of 1 put into node 1 would turn it on.
        row = net(1, R(1, 0, 5), D(1, 0, 1))
        self.assertEqual(port(0, 0, 0, row, [1, 0, 1, 0]), plain(5))
        # On at its own point; 1 drawn out of node 1 would turn it off.
        row = net(1, R(1, 0, 5), D(1, 0, 0), I(0, 1, Fraction(1, 2)))
        self.assertEqual(port(0, 0, 0, row, [0, 1, 0, 1]), ZERO)

    def test_what_holds_the_ports_turns_no_diode(self):
        row = net(2, R(1, 0, 1), R(2, 0, 1), D(1, 2, 0))
        self.assertEqual(all_four(1, row, [1, 0, 2, 0]), [plain(1), ZERO, ZERO, plain(1)])
        row = net(3, R(1, 0, 1), R(2, 0, 1), D(1, 3, 0), R(3, 2, 1), I(0, 1, 1))
        self.assertEqual(all_four(1, row, [1, 0, 2, 0]), [plain(2), plain(-1), plain(-1), plain(2)])

    def test_a_diode_that_is_on_across_a_port_leaves_no_y(self):
        row = net(2, R(1, 0, 1), D(1, 0, 0), R(2, 0, 1), I(0, 1, 1))
        self.assertEqual(all_four(1, row, [1, 0, 2, 0]), [[-5]] * 4)
        self.assertEqual(all_four(0, row, [1, 0, 2, 0]), [ZERO, ZERO, ZERO, plain(1)])


class OddPorts(unittest.TestCase):
    ROW = net(3, R(1, 0, 1), R(1, 2, 2), R(2, 0, 3), R(2, 3, 4), R(3, 0, 5))

    def z(self, nodes):
        return all_four(0, self.ROW, nodes)

    def y(self, nodes):
        return all_four(1, self.ROW, nodes)

    def test_ports_turned_round(self):
        first, across, back, second = self.z([1, 0, 3, 0])
        turned = quotient([-across[2]], [across[4]])
        self.assertEqual(across, back)
        self.assertEqual(self.z([0, 1, 3, 0]), [first, turned, turned, second])
        self.assertEqual(self.z([1, 0, 0, 3]), [first, turned, turned, second])
        self.assertEqual(self.z([0, 1, 0, 3]), [first, across, across, second])
        self.assertEqual(self.z([3, 0, 1, 0]), [second, across, across, first])

    def test_ports_turned_round_held(self):
        first, across, back, second = self.y([1, 0, 3, 0])
        turned = quotient([-across[2]], [across[4]])
        self.assertEqual(across, back)
        self.assertEqual(self.y([0, 1, 3, 0]), [first, turned, turned, second])
        self.assertEqual(self.y([0, 1, 0, 3]), [first, across, across, second])
        self.assertEqual(self.y([3, 0, 1, 0]), [second, across, across, first])

    def test_both_ports_the_same(self):
        first = self.z([1, 0, 3, 0])[0]
        self.assertEqual(self.z([1, 0, 1, 0]), [first] * 4)
        self.assertEqual(self.y([1, 0, 1, 0]), [[-5]] * 4)
        self.assertEqual(self.y([1, 0, 0, 1]), [[-5]] * 4)

    def test_ports_that_share_a_node(self):
        # Held from 1 to 2 and from 2 to 3: what flows in at 2 from port 1 is what its own source brings.
        row = net(3, R(1, 2, 1), R(2, 3, 2), R(1, 3, 4), R(3, 0, 1))
        self.assertEqual(all_four(1, row, [1, 2, 2, 3]), [plain(x) for x in ("5/4", "1/4", "1/4", "3/4")])
        self.assertEqual(all_four(0, row, [1, 2, 2, 3]), [plain(x) for x in ("6/7", "-2/7", "-2/7", "10/7")])

    def test_a_port_whose_nodes_are_the_same_one(self):
        first = self.z([1, 0, 3, 0])[0]
        for node in range(4):
            self.assertEqual(self.z([1, 0, node, node]), [first, ZERO, ZERO, ZERO])
            self.assertEqual(self.z([node, node, 1, 0]), [ZERO, ZERO, ZERO, first])
            self.assertEqual(self.y([1, 0, node, node]), [[-5]] * 4)
            self.assertEqual(self.y([node, node, 1, 0]), [[-5]] * 4)

    def test_the_ground_alone(self):
        self.assertEqual(self.z([0, 0, 0, 0]), [ZERO] * 4)
        self.assertEqual(self.y([0, 0, 0, 0]), [[-5]] * 4)


class NoY(unittest.TestCase):
    """-5"""

    def none(self, row, nodes):
        self.assertEqual(all_four(1, row, nodes), [[-5]] * 4, row)
        self.assertEqual([told[0] for told in all_four(0, row, nodes)], [0] * 4, row)

    def test_ports_that_are_held_already(self):
        self.none(net(2, V(1, 0), R(1, 2, 1), R(2, 0, 1)), [1, 0, 2, 0])
        self.none(net(2, V(1, 0), R(1, 2, 1), R(2, 0, 1)), [2, 0, 1, 0])
        self.none(net(2, S(1, 0, 1), R(2, 0, 1)), [1, 0, 2, 0])
        self.none(net(2, E(1, 0, 2, 0, 5), R(2, 0, 1)), [1, 0, 2, 0])
        self.none(net(2, R(1, 0, 1), T(1, 0, 2, 0, 3)), [1, 0, 2, 0])
        self.none(net(2, R(1, 0, 1), R(2, 0, 1), S(1, 2, 1)), [1, 0, 2, 0])

    def test_neighbours_that_are_not(self):
        row = net(3, V(1, 0), R(1, 2, 1), R(2, 0, 1), R(3, 0, 1))
        self.assertEqual(all_four(1, row, [2, 0, 3, 0]), [plain(2), ZERO, ZERO, plain(1)])

    def test_an_amplifier_is_held_by_its_input_alone(self):
        row = net(3, R(1, 3, 2), R(3, 2, 5), O(2, 0, 0, 3))
        self.none(row, [1, 0, 2, 0])


def with_more(row, *more):
    return row + [number for numbers in more for number in numbers]


class TheLaws(unittest.TestCase):
    """Promises 1 and 3 over thrown networks, held against the laws with what's put there, reckoned at some s."""

    def expected(self, kind, r, c, row, nodes, states, s):
        pairs = (nodes[:2], nodes[2:])
        first = len(rows_of(row))
        if kind == 0:
            solution = solution_at(with_more(row, I(pairs[c][1], pairs[c][0])), s, states, first)
            return solution and solution.get(("v", pairs[r][0]), 0) - solution.get(("v", pairs[r][1]), 0)
        solution = solution_at(with_more(row, V(*pairs[0]), V(*pairs[1])), s, states, first + c)
        return solution and -solution[("i", first + r)]

    def check(self, row, nodes, states):
        answers = {(kind, r, c): port(kind, r, c, row, nodes) for kind in (0, 1) for r, c in PAIRS}
        for (kind, r, c), answer in answers.items():
            where = (kind, r, c, row, nodes)
            self.assertIn(answer[0], (0, -5) if kind else (0,), where)
            expected = [(s, self.expected(kind, r, c, row, nodes, states, s)) for s in POINTS]
            if answer == [-5]:
                self.assertEqual([x for s, x in expected], [None] * len(POINTS), where)
                continue
            top, bottom = polynomials_of(answer)
            for s, x in expected:
                if x is not None:
                    self.assertEqual(at(top, s), x * at(bottom, s), where)
            self.assertTrue([x for s, x in expected if x is not None], where)
        return self.check_taken_back(answers, row)

    def check_taken_back(self, answers, row):
        if answers[(1, 0, 0)] == [-5]:
            return False
        quotients = {place: polynomials_of(answer) for place, answer in answers.items()}
        for s in POINTS:
            if 0 in [at(bottom, s) for top, bottom in quotients.values()]:
                continue
            here = {place: at(top, s) / at(bottom, s) for place, (top, bottom) in quotients.items()}
            for r, c in PAIRS:
                there_and_back = sum(here[(0, r, k)] * here[(1, k, c)] for k in (0, 1))
                and_the_other_way = sum(here[(1, r, k)] * here[(0, k, c)] for k in (0, 1))
                self.assertEqual((there_and_back, and_the_other_way), (int(r == c), int(r == c)), row)
        return True

    def check_thrown(self, dice, wiring, turns):
        both, tens = 0, 0
        for turn in range(turns):
            row = thrown_net(dice, wiring)
            nodes = [dice.below(row[0] + 1) for place in range(4)]
            states = operating_states(row)
            if states is None:
                self.assertEqual(port(turn % 2, 0, 1, row, nodes), [-4], row)
                continue
            both += self.check(row, nodes, states)
            tens += len(rows_of(row)) == 10
        return both, tens

    def test_thrown_networks(self):
        both, tens = self.check_thrown(Dice(41), WIRING, 70)
        self.assertGreater(both, 5)
        self.assertGreater(tens, 3)

    def test_thrown_networks_of_coils(self):
        both, tens = self.check_thrown(Dice(43), COILS, 20)
        self.assertGreater(both, 2)

    def test_ten_elements_with_sources_and_diodes(self):
        for q in (9, -9):
            row = net(5, V(1, 0, q), R(1, 2, 2), C(2, 0, 3), D(2, 3, 1), R(3, 0, 4), L(3, 4, 5), R(4, 0, 6), C(4, 5, 1),
                      R(5, 0, 2), I(5, 0, 1))
            states = operating_states(row)
            self.assertEqual(states, {3: q > 0})
            self.assertTrue(self.check(row, [2, 0, 5, 0], states))
            # On, the diode holds port 0 already.
            self.assertEqual(self.check(row, [3, 2, 5, 4], states), q < 0)
            self.assertFalse(self.check(row, [1, 0, 5, 0], states))


if __name__ == "__main__":
    unittest.main()
