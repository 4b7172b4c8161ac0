"""Promise 5 and the interface's last paragraph: nothing handed in is changed, nothing is kept, printed or read."""

import builtins
import inspect
import io
import unittest
from contextlib import redirect_stderr, redirect_stdout
from unittest import mock

from tests.helper import C, D, H, I, L, M, O, R, S, T, V, net, part
from wirequotients.networks import modes, port, same, trans, value

ROWS = [
    net(2, V(1, 0, 5), R(1, 2, 2), C(2, 0, 3)),
    net(3, V(1, 0), R(1, 2, 1), L(2, 0, 2), L(3, 0, 3), R(3, 0, 1), M(2, 3, 1)),
    net(2, V(1, 0, 5), R(1, 2, 2), D(2, 0, 1)),
    net(2, V(1, 0, -5), R(1, 2, 2), D(2, 0, 1)),
    net(2, V(1, 0), T(1, 0, 2, 0, 2), R(2, 0, 3), H(2, 2, 0, 1)),
    net(3, V(1, 0), R(1, 2, 1), R(2, 3, 5), O(3, 0, 2, 0), S(1, 2, 0)),
    net(1, I(0, 1), D(1, 0, 0), D(1, 0, 0)),
    net(1, V(1, 0), V(1, 0)),
    net(1, R(2, 0, 1)),
    net(1, part(14, (0, 0), 1)),
    [],
]
QUESTIONS = [(source, what, k) for source in (0, 1) for what in (0, 1, 2, 3) for k in (0, 1, 2)]
PLACES = [[0, 1, 0, 1], [1, 2, -3, 4], [-2, 12, 0, 5], [0, 0, 0, 1], [0, 1, 0]]
PORTS = [(kind, row, col) for kind in (0, 1) for row in (0, 1) for col in (0, 1, 2)]
NODES = [[1, 0, 2, 0], [1, 0, 0, 1], [1, 2, 2, 0], [0, 1, 9, 0], [1, 0, 2]]
BOTH_NODES = [([1], [1]), ([0, 1], [1, 0]), ([1, 2], [2, 1]), ([1, 1, 0], [1, 2, 0]), ([9], [1]), ([1], []), ([], [])]


def calls():
    """Every call that is tried here, told apart by the function and what is handed to it."""
    told = [(trans, (*question, row)) for row in ROWS for question in QUESTIONS]
    told += [(value, (*question, row, s)) for row in ROWS for question in QUESTIONS[::2] for s in PLACES]
    told += [(modes, (row,)) for row in ROWS]
    told += [(port, (*numbers, row, nodes)) for row in ROWS for numbers in PORTS for nodes in NODES]
    told += [(same, (one, two, *nodes)) for one in ROWS for two in ROWS for nodes in BOTH_NODES]
    return told


def mixed(told):
    """The same calls, those of all kinds among one another."""
    return [told[(place * 7919) % len(told)] for place in range(len(told))]


CALLS = calls()
NAMES = {
    trans: ["source", "what", "k", "net"],
    value: ["source", "what", "k", "net", "s"],
    modes: ["net"],
    port: ["kind", "row", "col", "net", "nodes"],
    same: ["net_one", "net_two", "nodes_one", "nodes_two"],
}


class Watched(list):
    """A list that every attempt to change fails on."""

    def refuse(self, *args, **kwargs):
        raise AssertionError("changed")

    __setitem__ = __delitem__ = __iadd__ = __imul__ = refuse
    append = extend = insert = pop = remove = clear = sort = reverse = refuse


def copied(arguments):
    return tuple(list(argument) if isinstance(argument, list) else argument for argument in arguments)


def watched(arguments):
    return tuple(Watched(argument) if isinstance(argument, list) else argument for argument in arguments)


class Alone(unittest.TestCase):
    @classmethod
    def setUpClass(cls):
        cls.first = [call(*copied(arguments)) for call, arguments in CALLS]

    def test_what_is_handed_in_stays(self):
        for call, arguments in CALLS:
            before = copied(arguments)
            call(*arguments)
            self.assertEqual(arguments, before)

    def test_it_is_not_changed_for_a_while_either(self):
        for (call, arguments), told in zip(CALLS, self.first):
            self.assertEqual(call(*watched(arguments)), told)

    def test_the_same_is_told_whatever_was_asked_between(self):
        again = [call(*arguments) for call, arguments in reversed(CALLS)]
        self.assertEqual(self.first, again[::-1])
        order = mixed(list(range(len(CALLS))))
        self.assertEqual(sorted(order), list(range(len(CALLS))))
        for place in order:
            call, arguments = CALLS[place]
            self.assertEqual(call(*arguments), self.first[place])
            self.assertEqual(call(*arguments), self.first[place])

    def test_an_answer_that_is_changed_changes_no_later_one(self):
        for (call, arguments), told in zip(CALLS, self.first):
            answer = call(*arguments)
            answer.append(99)
            answer[0] = 98
            self.assertEqual(call(*arguments), told)

    def test_answers_are_lists_of_whole_numbers(self):
        for answer in self.first:
            self.assertIs(type(answer), list)
            self.assertEqual({type(number) for number in answer}, {int})

    def test_a_refusal_is_its_number_alone_but_for_faults(self):
        for answer in self.first:
            if answer[0] == -2:
                self.assertEqual(len(answer), 3)
            elif answer[0] < 0:
                self.assertEqual(len(answer), 1)

    def test_every_call_is_answered_and_refused_here(self):
        for function in NAMES:
            heads = {told[0] for (call, arguments), told in zip(CALLS, self.first) if call is function}
            self.assertTrue({0, -1, -2, -4} <= heads, function)

    def test_nothing_is_printed_or_read_or_imported(self):
        out, err = io.StringIO(), io.StringIO()
        with redirect_stdout(out), redirect_stderr(err), \
                mock.patch.object(builtins, "open", side_effect=AssertionError), \
                mock.patch.object(builtins, "input", side_effect=AssertionError), \
                mock.patch.object(builtins, "__import__", side_effect=AssertionError):
            answers = [call(*arguments) for call, arguments in CALLS]
        self.assertEqual(answers, self.first)
        self.assertEqual((out.getvalue(), err.getvalue()), ("", ""))

    def test_arguments(self):
        for function, names in NAMES.items():
            self.assertEqual(list(inspect.signature(function).parameters), names)
        for (call, arguments), told in zip(CALLS, self.first):
            self.assertEqual(call(**dict(zip(NAMES[call], arguments))), told)


if __name__ == "__main__":
    unittest.main()
