"""Point 2 of the promises, as far as worth, look, dare, worthof and iffine."""

import itertools
import unittest
from fractions import Fraction

from helper import (
    CHANCES, LARGEST, QUESTIONS, ask, dare_by_outcomes, fraction, game, last, look_by_sets, seasons, told, value,
)


class KnownTest(unittest.TestCase):
    """Numbers reckoned by hand."""

    def test_two_days_one_look_one_misdeed(self):
        # Looked at with 1 of 4: dared now -2/4 + 3/4, dared tomorrow 1/4.
        asked = ask(("begin", 2, 1, 1, 2), ("worth",), ("look",), ("dare",))
        self.assertEqual(asked[1:], [[0, 1, 4], [0, 1, 4], [0, 1, 4]])

    def test_three_days_one_look_two_misdeeds(self):
        # Three sets of one day, of 1 each, and the empty one, of 5: 8 in all.
        asked = ask(("begin", 3, 1, 2, 5), ("worth",), ("look",), ("dare",))
        self.assertEqual(asked[1], [0, 3, 8])
        self.assertEqual(asked[2], [0, 1, 8])
        # Behind the day 2 0 2 is worth 2, 2 1 2 and 2 1 1 are worth 1/7 each. So to look is worth
        # -5y + 2(1 - y), not to look y(1 + 1/7) + (1 - y)/7: alike at y = 13/56.
        self.assertEqual(asked[3], [0, 13, 56])

    def test_eight_days_four_looks_fine_of_nine(self):
        heavy = 9 ** 4 + 8 * 9 ** 3 + 28 * 9 ** 2 + 56 * 9 + 70
        with_next = 9 ** 3 + 7 * 9 ** 2 + 21 * 9 + 35
        asked = ask(("begin", 8, 4, 8, 9), ("worth",), ("look",))
        self.assertEqual(asked[1:], [told(Fraction(56, heavy)), told(Fraction(with_next, heavy))])


class CornerTest(unittest.TestCase):
    def test_one_day(self):
        for b in range(1, 10):
            self.assertEqual(ask(("begin", 1, 1, 1, b), *CHANCES)[1:], [[0, 0, 1], [0, 1, b + 1], [0, 0, 1]])
            self.assertEqual(ask(("begin", 1, 0, 1, b), *CHANCES)[1:], [[0, 1, 1], [0, 0, 1], [0, 1, 1]])
            self.assertEqual(ask(("begin", 1, 1, 0, b), *CHANCES)[1:], [[0, 0, 1], [0, 1, b + 1], [0, 0, 1]])
            self.assertEqual(ask(("begin", 1, 0, 0, b), *CHANCES)[1:], [[0, 0, 1], [0, 0, 1], [0, 0, 1]])

    def test_no_looks(self):
        for n, b in itertools.product(range(1, 9), (1, 9)):
            for k in range(n + 1):
                asked = ask(("begin", n, 0, k, b), *CHANCES)
                self.assertEqual(asked[1:], [[0, k, 1], [0, 0, 1], [0, 1 if k else 0, 1]])

    def test_as_many_looks_as_days(self):
        for n, b in itertools.product(range(1, 9), range(1, 10)):
            for k in range(n + 1):
                asked = ask(("begin", n, n, k, b), *CHANCES)
                self.assertEqual(asked[1:], [[0, 0, 1], [0, 1, b + 1], [0, 0, 1]])

    def test_no_misdeeds(self):
        for n, b in itertools.product(range(1, 9), (1, 5, 9)):
            for m in range(n + 1):
                asked = ask(("begin", n, m, 0, b), *CHANCES)
                self.assertEqual(asked[1:], [[0, 0, 1], told(look_by_sets(n, m, b)), [0, 0, 1]])

    def test_as_many_misdeeds_as_days(self):
        self.assertEqual(ask(("begin", 2, 1, 2, 3), *CHANCES)[1:], [[0, 1, 5], [0, 1, 5], [0, 1, 5]])

    def test_more_misdeeds_than_days_are_as_many_as_days(self):
        for n, m, b in itertools.product(range(1, 8), range(8), (1, 4, 9)):
            waited = [("begin", 8, m, 8, b)] + [("day", 0, 0)] * (8 - n)
            asked = ask(*waited, *CHANCES)[len(waited):]
            self.assertEqual(asked[0], told(value(n, m, n, b)))
            self.assertEqual(asked[1], told(look_by_sets(n, m, b)))
            self.assertEqual(asked[2], told(dare_by_outcomes(n, m, 8, b)))

    def test_more_looks_than_days_are_as_many_as_days(self):
        for n, b in itertools.product(range(1, 8), range(1, 10)):
            waited = [("begin", 8, 8, 8, b)] + [("day", 0, 0)] * (8 - n)
            self.assertEqual(ask(*waited, *CHANCES)[len(waited):], [[0, 0, 1], [0, 1, b + 1], [0, 0, 1]])

    def test_behind_the_last_day_and_a_catch(self):
        for line in (
            [("begin", 1, 0, 1, 2), ("day", 0, 0)],
            [("begin", 2, 1, 2, 2), ("day", 0, 1), ("day", 0, 0)],
            [("begin", 8, 3, 5, 2), ("day", 1, 1)],
            [("begin", 8, 8, 8, 9), ("day", 0, 1), ("day", 1, 1)],
        ):
            asked = ask(*line, ("worth",), ("look",), ("dare",), ("iffine", 4), ("iffine", 10), ("worthof", 2, 0, 1))
            self.assertEqual(asked[len(line):], [[0, 0, 1], [-6], [-6], [0, 0, 1], [-22], [0, 1, 1]])


class EverySeasonTest(unittest.TestCase):
    def test_worth_look_dare(self):
        for n, m, k, b in seasons():
            asked = ask(("begin", n, m, k, b), *CHANCES)[1:]
            expected = [value(n, m, k, b), look_by_sets(n, m, b), dare_by_outcomes(n, m, k, b)]
            self.assertEqual(asked, [told(number) for number in expected], (n, m, k, b))

    def test_nobody_does_better_with_another_chance(self):
        for n, m, k, b in seasons():
            if m == 0 or k == 0:
                continue
            asked = ask(("begin", n, m, k, b), *CHANCES)[1:]
            worth, x, y = [fraction(answer) for answer in asked]
            table = game(n, m, k, b)
            self.assertEqual(max(x * table[1, d] + (1 - x) * table[0, d] for d in (0, 1)), worth)
            self.assertEqual(min(y * table[l, 1] + (1 - y) * table[l, 0] for l in (0, 1)), worth)

    def test_look_does_not_hang_on_misdeeds(self):
        for n, m, b in itertools.product(range(1, 9), range(9), range(1, 10)):
            if m <= n:
                self.assertEqual(len({tuple(last(("begin", n, m, k, b), ("look",))) for k in range(n + 1)}), 1)

    def test_more_looks_and_greater_fines_are_never_worth_more(self):
        for n, m, k, b in seasons():
            here = fraction(last(("begin", n, m, k, b), ("worth",)))
            if m < n:
                self.assertLessEqual(fraction(last(("begin", n, m + 1, k, b), ("worth",))), here)
            if b < 9:
                self.assertLessEqual(fraction(last(("begin", n, m, k, b + 1), ("worth",))), here)

    def test_worth_is_of_what_is_left_not_of_what_was(self):
        line = [("begin", 5, 2, 4, 3), ("day", 0, 1), ("day", 1, 0)]
        asked = ask(*line, *CHANCES)[3:]
        self.assertEqual(asked, ask(("begin", 3, 1, 3, 3), *CHANCES)[1:])


class WorthofTest(unittest.TestCase):
    def test_every_season(self):
        for n, m, k, b in seasons():
            self.assertEqual(last(("begin", 3, 1, 2, b), ("worthof", n, m, k)), told(value(n, m, k, b)), (n, m, k, b))

    def test_refusals(self):
        for numbers in (
            (0, 0, 0), (9, 0, 0), (9, 9, 9), (LARGEST, 0, 0), (3, 4, 0), (3, 0, 4), (8, 9, 8), (8, 8, 9),
            (3, LARGEST, 0), (3, 0, LARGEST), (LARGEST, LARGEST, LARGEST),
        ):
            self.assertEqual(last(("begin", 8, 4, 4, 3), ("worthof",) + numbers), [-22], numbers)

    def test_bounds_are_of_the_question_not_of_the_season(self):
        line = [("begin", 2, 0, 1, 4), ("day", 0, 1)]
        self.assertEqual(last(*line, ("worthof", 8, 3, 8)), told(value(8, 3, 8, 4)))
        self.assertEqual(last(*line, ("day", 0, 0), ("worthof", 8, 3, 8)), told(value(8, 3, 8, 4)))

    def test_changes_nothing(self):
        line = [("begin", 5, 2, 3, 4), ("day", 0, 1)]
        before = ask(*line, *QUESTIONS)[2:]
        for numbers in ((3, 1, 2), (8, 8, 8), (0, 0, 0), (3, 1, LARGEST)):
            self.assertEqual(ask(*line, ("worthof",) + numbers, *QUESTIONS)[3:], before)


class IffineTest(unittest.TestCase):
    def test_every_season(self):
        for n, m, k, b in seasons():
            self.assertEqual(last(("begin", n, m, k, 10 - b), ("iffine", b)), told(value(n, m, k, b)), (n, m, k, b))

    def test_behind_some_days(self):
        line = [("begin", 6, 3, 4, 2), ("day", 0, 1), ("day", 1, 0), ("day", 0, 0)]
        for b in range(1, 10):
            self.assertEqual(last(*line, ("iffine", b)), told(value(3, 2, 3, b)))

    def test_more_left_than_days(self):
        line = [("begin", 6, 2, 6, 2)] + [("day", 0, 0)] * 3
        for b in range(1, 10):
            self.assertEqual(last(*line, ("iffine", b)), told(value(3, 2, 3, b)))

    def test_refusals(self):
        for b in (0, 10, 99, 100, LARGEST):
            self.assertEqual(last(("begin", 8, 4, 4, 3), ("iffine", b)), [-22], b)

    def test_changes_nothing(self):
        line = [("begin", 5, 2, 3, 4), ("day", 0, 1)]
        before = ask(*line, *QUESTIONS)[2:]
        for b in (1, 4, 9, 0, 10, LARGEST):
            self.assertEqual(ask(*line, ("iffine", b), *QUESTIONS)[3:], before)


if __name__ == "__main__":
    unittest.main()
