"""The interface: how calls are handed in and answers told; fractions; and what the functions leave alone."""

import builtins
import contextlib
import io
import itertools
import random
import sys
import unittest
from math import gcd
from unittest import mock

from helper import LARGEST, NAMES, ask, split, written
from whentolook.chances import lowest
from whentolook.seasons import answers

LINE = [
    ("left",), ("begin", 9, 0, 0, 1), ("begin", 5, 2, 4, 3), ("gain",), ("left",), ("worth",), ("look",), ("dare",),
    ("worthof", 4, 1, 2), ("worthof", 4, 5, 2), ("iffine", 9), ("iffine", 10), ("day", 0, 1), ("day", 2, 0),
    ("day", 1, 1), ("day", 0, 0), ("gain",), ("left",), ("worth",), ("look",), ("dare",),
]
# Reckoned by hand: 5 2 4 is worth 10 by 9 + 15 + 10. Behind its first day 4 1 4 is worth 6/7, 4 2 4 and 4 2 3 4/27
# each: so daring stands to waiting as 6/7 - 4/27 to 4 + 4/27, which is 134 to 784.
TOLD = [
    1, -11, 1, -22, 1, 0, 2, 0, 0, 4, 5, 2, 4, 3, 3, 0, 5, 17, 3, 0, 7, 34, 3, 0, 67, 459,
    3, 0, 5, 7, 1, -22, 3, 0, 5, 68, 1, -22, 2, 0, 1, 1, -22,
    2, 0, -2, 1, -6, 2, 1, -2, 4, 0, 1, 2, 3, 3, 0, 0, 1, 1, -6, 1, -6,
]


class UntouchedList(list):
    """A list that can only be read."""

    def refuse(self, *args, **kwargs):
        raise AssertionError("what is handed in was changed")

    append = extend = insert = remove = pop = clear = sort = reverse = refuse
    __setitem__ = __delitem__ = __iadd__ = __imul__ = refuse


def random_line(source):
    """Calls of this stage, allowed and not, behind a begin or not."""
    calls = []
    for turn in range(source.randint(1, 60)):
        name = source.choice(NAMES[:9])
        if name == "begin":
            call = (name, source.randint(0, 9), source.randint(0, 6), source.randint(0, 6), source.randint(0, 10))
        elif name == "day":
            call = (name, source.choice((0, 0, 0, 1, 2)), source.choice((0, 1, 2)))
        elif name == "worthof":
            call = (name, source.randint(0, 9), source.randint(0, 9), source.randint(0, 9))
        elif name == "iffine":
            call = (name, source.randint(0, 10))
        else:
            call = (name,)
        calls.append(call)
    return calls


class FormTest(unittest.TestCase):
    def test_a_whole_line_number_by_number(self):
        self.assertEqual(answers(written(LINE)), TOLD)

    def test_kinds(self):
        told = answers(written(LINE))
        self.assertIs(type(told), list)
        for number in told:
            self.assertIs(type(number), int)

    def test_how_many_numbers_each_call_answers(self):
        counts = {"begin": 1, "day": 2, "gain": 2, "left": 4}
        source = random.Random(7)
        for turn in range(300):
            calls = random_line(source)
            for call, answer in zip(calls, ask(*calls)):
                if answer[0] < 0:
                    self.assertEqual(len(answer), 1)
                    self.assertIn(answer[0], (-6, -11, -22, -33))
                else:
                    self.assertEqual(len(answer), counts.get(call[0], 3))
                for number in answer:
                    self.assertIs(type(number), int)

    def test_longest_lines(self):
        self.assertEqual(answers([0, 8, 4, 4, 9] * 60), [1, 0] * 60)
        self.assertEqual(answers([0] + [LARGEST] * 4 + [4] * 59), [1, -22] + [1, -11] * 59)
        line = [0, 8, 8, 8, 9] + [7, 8, 4, 8] * 59
        self.assertEqual(len(split(answers(line))), 60)

    def test_shortest_lines(self):
        self.assertEqual(answers([0, 1, 0, 0, 1]), [1, 0])
        self.assertEqual(answers([3]), [1, -11])

    def test_a_number_within_a_call_is_no_call(self):
        self.assertEqual(ask(("worthof", 0, 3, 3), ("begin", 4, 3, 2, 1), ("left",)), [[-11], [0], [4, 3, 2, 1]])


class FractionTest(unittest.TestCase):
    def test_nothing_in_common(self):
        for above, below in itertools.product(range(-40, 41), range(1, 41)):
            low = lowest(above, below)
            self.assertEqual(low[0] * below, low[1] * above)
            self.assertGreaterEqual(low[1], 1)
            self.assertEqual(gcd(low[0], low[1]), 1)

    def test_below_nothing(self):
        self.assertEqual(lowest(-6, 4), (-3, 2))
        self.assertEqual(lowest(-9, 3), (-3, 1))
        self.assertEqual(lowest(-1, 7), (-1, 7))

    def test_nothing_is_nothing_by_one(self):
        self.assertEqual(lowest(0, 1), (0, 1))
        self.assertEqual(lowest(0, 100), (0, 1))

    def test_as_answered(self):
        for n, b in itertools.product(range(1, 9), range(1, 10)):
            for m, k in itertools.product(range(n + 1), repeat=2):
                for answer in ask(("begin", n, m, k, b), ("worth",), ("look",), ("dare",))[1:]:
                    self.assertEqual(answer[0], 0)
                    self.assertEqual(gcd(answer[1], answer[2]), 1)
                    self.assertTrue(1 <= answer[2] < 2 ** 63)


class LeftAloneTest(unittest.TestCase):
    def test_the_list_is_not_changed(self):
        line = written(LINE)
        kept = list(line)
        answers(line)
        self.assertEqual(line, kept)
        self.assertEqual(answers(UntouchedList(line)), TOLD)

    def test_the_same_when_asked_again(self):
        source = random.Random(11)
        lines = [written(random_line(source)) for turn in range(100)]
        first = [answers(line) for line in lines]
        again = [answers(line) for line in reversed(lines)]
        self.assertEqual(first, again[::-1])

    def test_nothing_is_kept_from_a_line(self):
        answers([0, 4, 2, 2, 3])
        self.assertEqual(answers([3, 4, 2]), [1, -11, 1, -11, 1, -11])

    def test_what_is_given_back_is_new(self):
        line = written(LINE)
        answers(line).clear()
        self.assertEqual(answers(line), TOLD)

    def test_nothing_is_printed_read_or_imported(self):
        refuse = mock.Mock(side_effect=AssertionError("not allowed"))
        out = io.StringIO()
        line = written(LINE)
        modules = sorted(sys.modules)
        with contextlib.redirect_stdout(out), contextlib.redirect_stderr(out), mock.patch("sys.stdin", None):
            with mock.patch.object(builtins, "open", refuse), mock.patch.object(builtins, "input", refuse):
                with mock.patch.object(builtins, "__import__", refuse):
                    told = answers(line)
        self.assertEqual(told, TOLD)
        self.assertEqual(out.getvalue(), "")
        self.assertEqual(sorted(sys.modules), modules)


if __name__ == "__main__":
    unittest.main()
