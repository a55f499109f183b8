"""Point 4 of the promises: looksfor, finefor."""

import itertools
import unittest
from fractions import Fraction

from helper import LARGEST, QUESTIONS, ask, fines_enough, last, looks_enough, reached, value

PARTS = (1, 2, 3, 7, 10, 50, 100, 999, 1000)


class LooksforTest(unittest.TestCase):
    def test_by_hand(self):
        # Two days, a misdeed, a fine of 2: without looks 1, with one 1/4, with two 0.
        line = [("begin", 2, 0, 1, 2)]
        asked = ask(*line, ("looksfor", 1), ("looksfor", 3), ("looksfor", 4), ("looksfor", 1000))
        self.assertEqual(asked[1:], [[1], [1], [2], [2]])

    def test_all_that_can_be_left(self):
        for left, line in reached():
            n, m, k, b = left
            expected = [[looks_enough(n, k, b, q)] for q in PARTS]
            self.assertEqual(ask(*line, *[("looksfor", q) for q in PARTS])[len(line):], expected, left)

    def test_no_look_is_needed_where_there_is_nothing_to_gain(self):
        for line in (
            [("begin", 8, 4, 0, 3)],
            [("begin", 1, 0, 1, 3), ("day", 0, 0)],
            [("begin", 3, 0, 1, 3), ("day", 0, 1)],
            [("begin", 8, 8, 8, 9), ("day", 1, 1)],
        ):
            self.assertEqual(ask(*line, ("looksfor", 1), ("looksfor", 1000))[len(line):], [[0], [0]])

    def test_only_as_many_as_days_do(self):
        for n in range(1, 9):
            self.assertEqual(last(("begin", n, 0, n, 1), ("looksfor", 1000)), [n])
        self.assertEqual(last(("begin", 1, 0, 1, 9), ("looksfor", 1)), [1])

    def test_the_first_look_does(self):
        self.assertEqual(last(("begin", 2, 2, 2, 9), ("looksfor", 10)), [1])

    def test_as_much_is_not_less(self):
        # With one look it's worth 1 by b + 2.
        for b in range(1, 10):
            asked = ask(("begin", 2, 0, 1, b), ("looksfor", b + 1), ("looksfor", b + 2), ("looksfor", b + 3))
            self.assertEqual(asked[1:], [[1], [2], [2]])

    def test_the_looks_left_are_not_asked(self):
        for n, k, b, q in itertools.product((1, 4, 8), (0, 1, 4), (1, 9), (1, 20, 1000)):
            if k <= n:
                self.assertEqual(len({last(("begin", n, m, k, b), ("looksfor", q))[0] for m in range(n + 1)}), 1)

    def test_more_looks_than_days_are_never_needed(self):
        line = [("begin", 8, 8, 8, 1)] + [("day", 0, 0)] * 5
        self.assertEqual(last(*line, ("looksfor", 1000)), [3])
        # Without looks three days are worth 3 at the most, however many misdeeds are left.
        self.assertEqual(last(*line, ("looksfor", 1)), [looks_enough(3, 3, 1, 1)])

    def test_the_fewest(self):
        for left, line in reached():
            n, m, k, b = left
            if m == 0:
                for q in (1, 30, 1000):
                    looks = last(*line, ("looksfor", q))[0]
                    self.assertLess(value(n, looks, k, b), Fraction(1, q))
                    if looks:
                        self.assertGreaterEqual(value(n, looks - 1, k, b), Fraction(1, q))

    def test_refusals(self):
        for line in ([("begin", 4, 2, 2, 3)], [("begin", 4, 0, 0, 3)], [("begin", 4, 2, 2, 3), ("day", 1, 1)]):
            for q in (0, 1001, 1002, LARGEST):
                self.assertEqual(last(*line, ("looksfor", q)), [-22], (line, q))
            for q in (1, 1000):
                self.assertGreaterEqual(last(*line, ("looksfor", q))[0], 0)


class FineforTest(unittest.TestCase):
    def test_by_hand(self):
        # Two days, a look, a misdeed: worth 1 by b + 2.
        line = [("begin", 2, 1, 1, 5)]
        asked = ask(*line, *[("finefor", q) for q in (1, 2, 3, 4, 99, 100, 101, 1000)])
        self.assertEqual(asked[1:], [[1], [1], [2], [3], [98], [99], [-33], [-33]])

    def test_all_that_can_be_left(self):
        for left, line in reached():
            n, m, k, b = left
            if b in (1, 9):
                expected = [(fines_enough(n, m, k, q) or [-33])[:1] for q in PARTS]
                self.assertEqual(ask(*line, *[("finefor", q) for q in PARTS])[len(line):], expected, left)

    def test_the_first_does_where_there_is_nothing_to_gain(self):
        for line in (
            [("begin", 8, 4, 0, 3)],
            [("begin", 8, 8, 8, 9)],
            [("begin", 8, 0, 0, 9)],
            [("begin", 3, 2, 3, 9), ("day", 0, 0)],
            [("begin", 1, 0, 1, 3), ("day", 0, 0)],
            [("begin", 8, 8, 8, 9), ("day", 1, 1)],
        ):
            self.assertEqual(ask(*line, ("finefor", 1), ("finefor", 1000))[len(line):], [[1], [1]])

    def test_no_fine_does_without_looks(self):
        for n in range(1, 9):
            for k in range(1, n + 1):
                self.assertEqual(ask(("begin", n, 0, k, 9), ("finefor", 1), ("finefor", 1000))[1:], [[-33], [-33]])

    def test_greater_than_a_season_may_have(self):
        self.assertEqual(last(("begin", 3, 1, 1, 1), ("finefor", 8)), [14])
        self.assertEqual(value(3, 1, 1, 14), Fraction(2, 17))
        self.assertEqual(value(3, 1, 1, 13), Fraction(1, 8))

    def test_this_fine_is_not_asked(self):
        for n, m, k, q in itertools.product((2, 5, 8), (1, 2), (1, 2), (1, 20, 1000)):
            self.assertEqual(len({last(("begin", n, m, k, b), ("finefor", q))[0] for b in range(1, 10)}), 1)

    def test_refusals(self):
        for line in (
            [("begin", 4, 2, 2, 3)], [("begin", 4, 0, 2, 3)], [("begin", 4, 0, 0, 3)],
            [("begin", 4, 2, 2, 3), ("day", 1, 1)],
        ):
            for q in (0, 1001, 1002, LARGEST):
                self.assertEqual(last(*line, ("finefor", q)), [-22], (line, q))
            for q in (1, 1000):
                self.assertNotEqual(last(*line, ("finefor", q)), [-22], (line, q))


class LeftAloneTest(unittest.TestCase):
    def test_nothing_is_changed(self):
        for begin in ((5, 2, 3, 4), (5, 0, 3, 4)):
            line = [("begin",) + begin, ("day", 0, 1)]
            before = ask(*line, *QUESTIONS)[2:]
            for name, q in itertools.product(("looksfor", "finefor"), (0, 1, 1000, 1001, LARGEST)):
                self.assertEqual(ask(*line, (name, q), *QUESTIONS)[3:], before, (begin, name, q))


if __name__ == "__main__":
    unittest.main()
