"""Promise 5 and the interface's last paragraph: nothing handed in is changed, nothing is kept, printed or read."""

import builtins
import inspect
import io
import unittest
from contextlib import redirect_stderr, redirect_stdout
from unittest import mock

from tests.helper import C, D, H, I, L, M, O, R, S, T, V, net, part
from wirequotients.networks import trans

ROWS = [
    net(2, V(1, 0, 5), R(1, 2, 2), C(2, 0, 3)),
    net(3, V(1, 0), R(1, 2, 1), L(2, 0, 2), L(3, 0, 3), R(3, 0, 1), M(2, 3, 1)),
    net(2, V(1, 0, 5), R(1, 2, 2), D(2, 0, 1)),
    net(2, V(1, 0, -5), R(1, 2, 2), D(2, 0, 1)),
    net(2, V(1, 0), T(1, 0, 2, 0, 2), R(2, 0, 3), H(2, 2, 0, 1)),
    net(3, V(1, 0), R(1, 2, 1), R(2, 3, 5), O(3, 0, 2, 0), S(1, 2, 0)),
    net(1, I(0, 1), D(1, 0, 0), D(1, 0, 0)),
    net(1, V(1, 0), V(1, 0)),
    net(1, R(2, 0, 1)),
    net(1, part(14, (0, 0), 1)),
    [],
]
CALLS = [(source, what, k, row) for row in ROWS for source in (0, 1) for what in (0, 1, 2, 3) for k in (0, 1, 2)]


class Alone(unittest.TestCase):
    def test_what_is_handed_in_stays(self):
        for source, what, k, row in CALLS:
            copy = list(row)
            trans(source, what, k, row)
            self.assertEqual(row, copy)

    def test_it_is_not_changed_for_a_while_either(self):
        class Watched(list):
            """A list that every attempt to change fails on."""

            def refuse(self, *args, **kwargs):
                raise AssertionError("changed")

            __setitem__ = __delitem__ = __iadd__ = __imul__ = refuse
            append = extend = insert = pop = remove = clear = sort = reverse = refuse

        for source, what, k, row in CALLS:
            self.assertEqual(trans(source, what, k, Watched(row)), trans(source, what, k, row))

    def test_the_same_is_told_whatever_was_asked_between(self):
        first = [trans(*call) for call in CALLS]
        again = [trans(*call) for call in reversed(CALLS)]
        self.assertEqual(first, again[::-1])
        for call, told in zip(CALLS, first):
            self.assertEqual(trans(*call), told)
            self.assertEqual(trans(*call), told)

    def test_an_answer_that_is_changed_changes_no_later_one(self):
        for source, what, k, row in CALLS:
            answer = trans(source, what, k, row)
            expected = list(answer)
            answer.append(99)
            answer[0] = 98
            self.assertEqual(trans(source, what, k, row), expected)

    def test_answers_are_lists_of_whole_numbers(self):
        for call in CALLS:
            answer = trans(*call)
            self.assertIs(type(answer), list)
            self.assertEqual({type(number) for number in answer}, {int})

    def test_nothing_is_printed_or_read_or_imported(self):
        out, err = io.StringIO(), io.StringIO()
        with redirect_stdout(out), redirect_stderr(err), \
                mock.patch.object(builtins, "open", side_effect=AssertionError), \
                mock.patch.object(builtins, "input", side_effect=AssertionError), \
                mock.patch.object(builtins, "__import__", side_effect=AssertionError):
            answers = [trans(*call) for call in CALLS]
        self.assertEqual(len(answers), len(CALLS))
        self.assertEqual((out.getvalue(), err.getvalue()), ("", ""))

    def test_arguments(self):
        self.assertEqual(list(inspect.signature(trans).parameters), ["source", "what", "k", "net"])
        row = ROWS[0]
        self.assertEqual(trans(source=0, what=0, k=2, net=row), trans(0, 0, 2, row))


if __name__ == "__main__":
    unittest.main()
