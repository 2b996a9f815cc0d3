"""What the interface says of every function, whatever it answers."""

import builtins
import contextlib
import importlib.util
import inspect
import io
import sys
import unittest
from unittest import mock

from agreed import terms
from agreed.terms import nash, part, same, talk
from tests.sample_corners import flat, many_bends

CALLS = (
    (nash, (2, [6, 0, 0, 4])),
    (nash, (3, [9, 2, 0, 6, 3, 5])),
    (nash, (1, [3, 4])),
    (nash, (1, [1001, 4])),
    (nash, (2, [0, 4, 0, 1])),
    (nash, (0, [])),
    (part, (2, [4, 1, 0, 3])),
    (part, (3, [9, 2, 0, 6, 3, 5])),
    (part, (1, [3, 4])),
    (part, (1, [1001, 4])),
    (part, (2, [0, 4, 0, 1])),
    (part, (0, [])),
    (same, (2, [4, 1, 0, 3])),
    (same, (3, [9, 2, 0, 6, 3, 5])),
    (same, (1, [3, 4])),
    (same, (1, [1001, 4])),
    (same, (2, [0, 4, 0, 1])),
    (same, (0, [])),
    (talk, (2, 1, 2, 1, 3, [5, 0, 0, 10])),
    (talk, (3, 2, 3, 4, 7, [9, 2, 0, 6, 3, 5])),
    (talk, (1, 1, 2, 1, 2, [3, 4])),
    (talk, (1, 1, 2, 1, 2, [1001, 4])),
    (talk, (2, 1, 2, 1, 2, [0, 4, 0, 1])),
    (talk, (1, 2, 2, 1, 2, [3, 4])),
    (talk, (0, 1, 2, 1, 2, [])),
)


def refuse(*args, **kwargs):
    raise AssertionError("what is handed in was changed")


class Unchangeable(list):
    """A list that does not let itself be changed, not for a while either."""

    __setitem__ = __delitem__ = __iadd__ = __imul__ = refuse
    append = clear = extend = insert = pop = remove = reverse = sort = refuse


def kept(args):
    return [Unchangeable(value) if isinstance(value, list) else value for value in args]


def for_the_first_time(call, args):
    """What the function answers in a module that was read for this one call."""
    spec = importlib.util.spec_from_file_location("terms_anew", terms.__file__)
    anew = importlib.util.module_from_spec(spec)
    spec.loader.exec_module(anew)
    return getattr(anew, call.__name__)(*args)


def answers_of_all(k, p):
    return [nash(k, p), part(k, p), same(k, p), talk(k, 1, 2, 1, 2, p)]


class Interface(unittest.TestCase):
    def test_parameters(self):
        for call in (nash, part, same):
            self.assertEqual(list(inspect.signature(call).parameters), ["k", "p"])
        self.assertEqual(list(inspect.signature(talk).parameters), ["k", "a", "b", "c", "d", "p"])

    def test_by_name(self):
        self.assertEqual(nash(k=2, p=[6, 0, 0, 4]), [0, 3, 1, 2, 1])
        self.assertEqual(part(k=2, p=[2, 0, 0, 1]), [0, 1, 1, 1, 2])
        self.assertEqual(same(k=2, p=[2, 0, 0, 1]), [0, 2, 3, 2, 3])
        self.assertEqual(talk(k=2, a=1, b=2, c=1, d=3, p=[5, 0, 0, 10]), [0, 4, 1, 2, 1, 2, 1, 6, 1])

    def test_gives_back_a_list_of_whole_numbers(self):
        for call, args in CALLS:
            answer = call(*args)
            self.assertIs(type(answer), list)
            for number in answer:
                self.assertIs(type(number), int)

    def test_handed_in_stays_as_it_was(self):
        for call, args in CALLS:
            before = [list(value) if isinstance(value, list) else value for value in args]
            call(*args)
            self.assertEqual(list(args), before)
            self.assertEqual(call(*kept(args)), call(*args))

    def test_same_call_twice(self):
        firsts = [call(*args) for call, args in CALLS]
        for (call, args), first in reversed(list(zip(CALLS, firsts))):
            self.assertEqual(call(*args), first)

    def test_each_after_any_other_as_if_for_the_first_time(self):
        firsts = [for_the_first_time(call, args) for call, args in CALLS]
        for call_ahead, args_ahead in CALLS:
            for (call, args), first in zip(CALLS, firsts):
                call_ahead(*args_ahead)
                self.assertEqual(call(*args), first)

    def test_nothing_is_kept_in_the_module(self):
        before = {name: repr(value) for name, value in vars(terms).items() if name != "__builtins__"}
        for call, args in CALLS:
            call(*args)
        after = {name: repr(value) for name, value in vars(terms).items() if name != "__builtins__"}
        self.assertEqual(after, before)

    def test_new_list_each_time(self):
        for call, args in CALLS:
            first = call(*args)
            wanted = list(first)
            first.append(77)
            first[0] = 99
            second = call(*args)
            self.assertIsNot(first, second)
            self.assertEqual(second, wanted)

    def test_prints_reads_and_imports_nothing(self):
        heard = io.StringIO()
        for call, args in CALLS:
            with contextlib.redirect_stdout(heard), contextlib.redirect_stderr(heard):
                with mock.patch.object(builtins, "open", refuse), mock.patch.object(builtins, "input", refuse):
                    with mock.patch.object(builtins, "__import__", refuse):
                        call(*args)
        self.assertEqual(heard.getvalue(), "")

    def test_long_input_is_gone_through_by_loops(self):
        row = flat((place, 255 - place) for place in range(256))
        bends = flat(many_bends())
        wanted = [answers_of_all(len(p) // 2, p) for p in (row, bends)]
        limit = sys.getrecursionlimit()
        sys.setrecursionlimit(len(inspect.stack()) + 40)
        try:
            answers = [answers_of_all(len(p) // 2, p) for p in (row, bends)]
        finally:
            sys.setrecursionlimit(limit)
        self.assertEqual(answers, wanted)
        self.assertEqual(answers[0], 3 * [[0, 255, 2, 255, 2]] + [[0, 170, 1, 85, 1, 85, 1, 170, 1]])


if __name__ == "__main__":
    unittest.main()
