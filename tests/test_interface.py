"""What the interface says of every function, whatever it answers."""

import builtins
import contextlib
import inspect
import io
import sys
import unittest
from unittest import mock

from agreed.terms import nash, part, same
from tests.sample_corners import flat, many_bends

CALLS = (
    (nash, (2, [6, 0, 0, 4])),
    (nash, (3, [9, 2, 0, 6, 3, 5])),
    (nash, (1, [3, 4])),
    (nash, (1, [1001, 4])),
    (nash, (2, [0, 4, 0, 1])),
    (nash, (0, [])),
    (part, (2, [4, 1, 0, 3])),
    (part, (3, [9, 2, 0, 6, 3, 5])),
    (part, (1, [3, 4])),
    (part, (1, [1001, 4])),
    (part, (2, [0, 4, 0, 1])),
    (part, (0, [])),
    (same, (2, [4, 1, 0, 3])),
    (same, (3, [9, 2, 0, 6, 3, 5])),
    (same, (1, [3, 4])),
    (same, (1, [1001, 4])),
    (same, (2, [0, 4, 0, 1])),
    (same, (0, [])),
)


def refuse(*args, **kwargs):
    raise AssertionError("what is handed in was changed")


class Unchangeable(list):
    """A list that does not let itself be changed, not for a while either."""

    __setitem__ = __delitem__ = __iadd__ = __imul__ = refuse
    append = clear = extend = insert = pop = remove = reverse = sort = refuse


def kept(args):
    return [Unchangeable(value) if isinstance(value, list) else value for value in args]


class Interface(unittest.TestCase):
    def test_parameters(self):
        for call in (nash, part, same):
            self.assertEqual(list(inspect.signature(call).parameters), ["k", "p"])

    def test_by_name(self):
        self.assertEqual(nash(k=2, p=[6, 0, 0, 4]), [0, 3, 1, 2, 1])
        self.assertEqual(part(k=2, p=[2, 0, 0, 1]), [0, 1, 1, 1, 2])
        self.assertEqual(same(k=2, p=[2, 0, 0, 1]), [0, 2, 3, 2, 3])

    def test_gives_back_a_list_of_whole_numbers(self):
        for call, args in CALLS:
            answer = call(*args)
            self.assertIs(type(answer), list)
            for number in answer:
                self.assertIs(type(number), int)

    def test_handed_in_stays_as_it_was(self):
        for call, args in CALLS:
            before = [list(value) if isinstance(value, list) else value for value in args]
            call(*args)
            self.assertEqual(list(args), before)
            self.assertEqual(call(*kept(args)), call(*args))

    def test_same_call_twice(self):
        firsts = [call(*args) for call, args in CALLS]
        for (call, args), first in reversed(list(zip(CALLS, firsts))):
            self.assertEqual(call(*args), first)

    def test_new_list_each_time(self):
        for call, args in CALLS:
            first = call(*args)
            wanted = list(first)
            first.append(77)
            first[0] = 99
            second = call(*args)
            self.assertIsNot(first, second)
            self.assertEqual(second, wanted)

    def test_prints_reads_and_imports_nothing(self):
        heard = io.StringIO()
        for call, args in CALLS:
            with contextlib.redirect_stdout(heard), contextlib.redirect_stderr(heard):
                with mock.patch.object(builtins, "open", refuse), mock.patch.object(builtins, "input", refuse):
                    with mock.patch.object(builtins, "__import__", refuse):
                        call(*args)
        self.assertEqual(heard.getvalue(), "")

    def test_long_input_is_gone_through_by_loops(self):
        row = flat((place, 255 - place) for place in range(256))
        bends = flat(many_bends())
        wanted = [call(len(p) // 2, p) for call in (nash, part, same) for p in (row, bends)]
        limit = sys.getrecursionlimit()
        sys.setrecursionlimit(len(inspect.stack()) + 40)
        try:
            answers = [call(len(p) // 2, p) for call in (nash, part, same) for p in (row, bends)]
        finally:
            sys.setrecursionlimit(limit)
        self.assertEqual(answers, wanted)
        for answer in answers[0::2]:
            self.assertEqual(answer, [0, 255, 2, 255, 2])


if __name__ == "__main__":
    unittest.main()
