"""The interface: how calls are handed in and answers told; fractions; and what the functions leave alone."""

import builtins
import contextlib
import io
import itertools
import random
import sys
import unittest
from math import gcd
from unittest import mock

from helper import CHANCES, COUNTS, LARGEST, NAMES, ask, by_account, split, written
from whentolook.chances import lowest
from whentolook.seasons import answers

LINE = [
    ("left",), ("begin", 9, 0, 0, 1), ("begin", 5, 2, 4, 3), ("gain",), ("left",), ("worth",), ("look",), ("dare",),
    ("worthof", 4, 1, 2), ("worthof", 4, 5, 2), ("iffine", 9), ("iffine", 10), ("day", 0, 1), ("day", 2, 0),
    ("day", 1, 1), ("day", 0, 0), ("gain",), ("left",), ("worth",), ("look",), ("dare",),
    ("begin", 5, 2, 4, 3), ("iflook", 0), ("iflook", 100), ("ifdare", 0), ("ifdare", 100), ("iflook", 101),
    ("looked", 4), ("looked", 5), ("spare", 1), ("spare", 3), ("looksfor", 3), ("looksfor", 4), ("looksfor", 0),
    ("finefor", 3), ("finefor", 1000), ("finefor", 1001),
    ("begin", 2, 1, 1, 2), ("caught",), ("done",), ("begin", 2, 0, 1, 1), ("iflook", 1), ("finefor", 1),
]
# Reckoned by hand: 5 2 4 is worth 10 by 9 + 15 + 10. Behind its first day 4 1 4 is worth 6/7, 4 2 4 and 4 2 3 4/27
# each: so daring stands to waiting as 6/7 - 4/27 to 4 + 4/27, which is 134 to 784. With three looks it's worth 5/112,
# with a fine of b 10 by b * b + 5 * b + 10.
TOLD = [
    1, -11, 1, -22, 1, 0, 2, 0, 0, 4, 5, 2, 4, 3, 3, 0, 5, 17, 3, 0, 7, 34, 3, 0, 67, 459,
    3, 0, 5, 7, 1, -22, 3, 0, 5, 68, 1, -22, 2, 0, 1, 1, -22,
    2, 0, -2, 1, -6, 2, 1, -2, 4, 0, 1, 2, 3, 3, 0, 0, 1, 1, -6, 1, -6,
    1, 0, 3, 0, 31, 27, 3, 0, 6, 7, 3, 0, 4, 27, 3, 0, -3, 1, 1, -22,
    3, 0, 7, 34, 1, -22, 3, 0, 15, 34, 1, -22, 1, 2, 1, 3, 1, -22,
    1, 3, 1, 98, 1, -22,
    1, 0, 3, 0, 1, 16, 3, 0, 3, 8, 1, 0, 1, -33, 1, -33,
]


class UntouchedList(list):
    """A list that can only be read."""

    def refuse(self, *args, **kwargs):
        raise AssertionError("what is handed in was changed")

    append = extend = insert = remove = pop = clear = sort = reverse = refuse
    __setitem__ = __delitem__ = __iadd__ = __imul__ = refuse


def random_line(source):
    """Calls of all kinds, allowed and not, behind a begin or not."""
    calls = []
    for turn in range(source.randint(1, 60)):
        # Few begins, so that seasons grow old.
        name = source.choice(NAMES + ("day",) * 4)
        if name == "begin" and turn > 2 and source.randint(0, 2):
            name = "day"
        calls.append((name,) + random_numbers(source, name))
    return calls


def random_numbers(source, name):
    if source.randint(0, 30) == 0:
        return tuple(source.choice((0, 1, LARGEST)) for number in range(COUNTS.get(name, 0)))
    if name == "begin":
        n = source.choice((1, 2, 3, 4, 5, 6, 7, 8, 8, 9))
        return (n, source.randint(0, n), source.randint(0, n), source.randint(1, 10))
    if name == "day":
        return source.choice(((0, 0), (0, 0), (0, 1), (0, 1), (1, 0), (1, 0), (1, 1), (2, 0), (0, 2)))
    if name == "worthof":
        return (source.randint(0, 9), source.randint(0, 9), source.randint(0, 9))
    most = {"iffine": 10, "iflook": 105, "ifdare": 105, "looked": 8, "spare": 8, "looksfor": 1001, "finefor": 1001}
    if name not in most:
        return ()
    return (source.randint(0, source.choice((most[name], 10))),)


class FormTest(unittest.TestCase):
    def test_a_whole_line_number_by_number(self):
        self.assertEqual(answers(written(LINE)), TOLD)

    def test_kinds(self):
        told = answers(written(LINE))
        self.assertIs(type(told), list)
        for number in told:
            self.assertIs(type(number), int)

    def test_how_many_numbers_each_call_answers(self):
        counts = {"begin": 1, "day": 2, "gain": 2, "left": 4, "looksfor": 1, "finefor": 1}
        source = random.Random(7)
        for turn in range(300):
            calls = random_line(source)
            for call, answer in zip(calls, ask(*calls)):
                if answer[0] < 0:
                    self.assertEqual(len(answer), 1)
                    self.assertIn(answer[0], (-6, -11, -22, -33))
                else:
                    self.assertEqual(len(answer), counts.get(call[0], 3))
                for number in answer:
                    self.assertIs(type(number), int)

    def test_whole_lines_as_the_document_asks(self):
        source = random.Random(5)
        met = {}
        for turn in range(1500):
            calls = random_line(source)
            asked = ask(*calls)
            self.assertEqual(asked, by_account(calls), calls)
            for call, answer in zip(calls, asked):
                met.setdefault(call[0], set()).add(min(answer[0], 0))
        # All answers that the document lists of a call were met.
        allowed = {name: {0, -11} for name in NAMES}
        allowed["begin"] = {0, -22}
        for name in ("day", "iflook", "ifdare"):
            allowed[name] |= {-6, -22, -33}
        for name in ("look", "dare"):
            allowed[name] |= {-6}
        for name in ("worthof", "iffine", "looked", "spare", "looksfor", "finefor"):
            allowed[name] |= {-22}
        allowed["finefor"] |= {-33}
        self.assertEqual(met, allowed)

    def test_longest_lines(self):
        self.assertEqual(answers([0, 8, 4, 4, 9] * 60), [1, 0] * 60)
        self.assertEqual(answers([0] + [LARGEST] * 4 + [4] * 59), [1, -22] + [1, -11] * 59)
        line = [0, 8, 8, 8, 9] + [7, 8, 4, 8] * 59
        self.assertEqual(len(split(answers(line))), 60)
        for call in NAMES[4:]:
            line = [("begin", 8, 4, 8, 9)] + [(call,) + (1,) * COUNTS.get(call, 0)] * 59
            asked = ask(*line)
            self.assertEqual(asked[1:], asked[1:2] * 59)

    def test_shortest_lines(self):
        self.assertEqual(answers([0, 1, 0, 0, 1]), [1, 0])
        self.assertEqual(answers([3]), [1, -11])

    def test_a_number_within_a_call_is_no_call(self):
        self.assertEqual(ask(("worthof", 0, 3, 3), ("begin", 4, 3, 2, 1), ("left",)), [[-11], [0], [4, 3, 2, 1]])


class FractionTest(unittest.TestCase):
    def test_nothing_in_common(self):
        for above, below in itertools.product(range(-40, 41), range(1, 41)):
            low = lowest(above, below)
            self.assertEqual(low[0] * below, low[1] * above)
            self.assertGreaterEqual(low[1], 1)
            self.assertEqual(gcd(low[0], low[1]), 1)

    def test_below_nothing(self):
        self.assertEqual(lowest(-6, 4), (-3, 2))
        self.assertEqual(lowest(-9, 3), (-3, 1))
        self.assertEqual(lowest(-1, 7), (-1, 7))

    def test_nothing_is_nothing_by_one(self):
        self.assertEqual(lowest(0, 1), (0, 1))
        self.assertEqual(lowest(0, 100), (0, 1))

    def test_answered_below_nothing_and_as_nothing(self):
        asked = ask(("begin", 1, 1, 1, 9), ("ifdare", 100), ("ifdare", 50), ("ifdare", 2), ("ifdare", 0))[1:]
        self.assertEqual(asked, [[0, -9, 1], [0, -9, 2], [0, -9, 50], [0, 0, 1]])
        asked = ask(("begin", 4, 4, 2, 3), ("worth",), ("dare",), ("caught",), ("done",), ("ifdare", 0))[1:]
        self.assertEqual(asked, [[0, 0, 1]] * 5)

    def test_as_answered(self):
        for n, b in itertools.product(range(1, 9), range(1, 10)):
            for m, k in itertools.product(range(n + 1), repeat=2):
                for answer in ask(("begin", n, m, k, b), *CHANCES)[1:]:
                    self.assertEqual(answer[0], 0)
                    self.assertEqual(gcd(answer[1], answer[2]), 1)
                    self.assertTrue(1 <= answer[2] < 2 ** 63)


class LeftAloneTest(unittest.TestCase):
    def test_the_list_is_not_changed(self):
        line = written(LINE)
        kept = list(line)
        answers(line)
        self.assertEqual(line, kept)
        self.assertEqual(answers(UntouchedList(line)), TOLD)

    def test_the_same_when_asked_again(self):
        source = random.Random(11)
        lines = [written(random_line(source)) for turn in range(100)]
        first = [answers(line) for line in lines]
        again = [answers(line) for line in reversed(lines)]
        self.assertEqual(first, again[::-1])

    def test_nothing_is_kept_from_a_line(self):
        answers([0, 4, 2, 2, 3])
        self.assertEqual(answers([3, 4, 2]), [1, -11, 1, -11, 1, -11])

    def test_what_is_given_back_is_new(self):
        line = written(LINE)
        answers(line).clear()
        self.assertEqual(answers(line), TOLD)

    def test_nothing_is_printed_read_or_imported(self):
        refuse = mock.Mock(side_effect=AssertionError("not allowed"))
        out = io.StringIO()
        line = written(LINE)
        modules = sorted(sys.modules)
        with contextlib.redirect_stdout(out), contextlib.redirect_stderr(out), mock.patch("sys.stdin", None):
            with mock.patch.object(builtins, "open", refuse), mock.patch.object(builtins, "input", refuse):
                with mock.patch.object(builtins, "__import__", refuse):
                    told = answers(line)
        self.assertEqual(told, TOLD)
        self.assertEqual(out.getvalue(), "")
        self.assertEqual(sorted(sys.modules), modules)


if __name__ == "__main__":
    unittest.main()
