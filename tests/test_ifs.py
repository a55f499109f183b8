"""Point 2 of the promises, as far as iflook and ifdare."""

import itertools
import unittest
from fractions import Fraction

from helper import LARGEST, QUESTIONS, ask, fraction, if_dared, if_looked, last, reached, seasons, told, value

HUNDREDTHS = (0, 1, 10, 33, 50, 99, 100)
IFS = [(name, x) for name in ("iflook", "ifdare") for x in HUNDREDTHS]


def every_chance(name):
    """All of 0 to 100, as many as a line holds at once."""
    return [[(name, x) for x in range(first, min(first + 50, 101))] for first in (0, 50, 100)]


class KnownTest(unittest.TestCase):
    """Numbers reckoned by hand."""

    def test_two_days_one_look_one_misdeed(self):
        # Behind the day: looked at and waited 1, not looked at and waited 0, dared 1 or -2.
        line = [("begin", 2, 1, 1, 2)]
        asked = ask(*line, ("iflook", 0), ("iflook", 20), ("iflook", 25), ("iflook", 50), ("iflook", 100))[1:]
        self.assertEqual(asked, [[0, 1, 1], [0, 2, 5], [0, 1, 4], [0, 1, 2], [0, 1, 1]])
        asked = ask(*line, ("ifdare", 0), ("ifdare", 20), ("ifdare", 25), ("ifdare", 50), ("ifdare", 100))[1:]
        self.assertEqual(asked, [[0, 0, 1], [0, 1, 5], [0, 1, 4], [0, -1, 2], [0, -2, 1]])

    def test_three_days_one_look_two_misdeeds(self):
        # Behind the day: looked at and waited 2, not looked at and waited 1/7, dared 8/7 or -5.
        line = [("begin", 3, 1, 2, 5)]
        # 10 of 100: dared -5/10 + 72/70 = 37/70; waited 2/10 + 9/70 = 23/70.
        self.assertEqual(last(*line, ("iflook", 10)), [0, 37, 70])
        # 30 of 100: dared -15/10 + 56/70 is below 0; waited 6/10 + 7/70 = 7/10.
        self.assertEqual(last(*line, ("iflook", 30)), [0, 7, 10])
        # 10 of 100: looked -5/10 + 18/10 = 13/10; passed 8/70 + 9/70 = 17/70.
        self.assertEqual(last(*line, ("ifdare", 10)), [0, 17, 70])
        # 30 of 100: looked -15/10 + 14/10 = -1/10; passed above 0.
        self.assertEqual(last(*line, ("ifdare", 30)), [0, -1, 10])


class CornerTest(unittest.TestCase):
    def test_one_day(self):
        for b in range(1, 10):
            line = [("begin", 1, 1, 1, b)]
            self.assertEqual(ask(*line, ("iflook", 0), ("iflook", 100))[1:], [[0, 1, 1], [0, 0, 1]])
            self.assertEqual(ask(*line, ("ifdare", 0), ("ifdare", 100))[1:], [[0, 0, 1], [0, -b, 1]])
            self.assertEqual(last(*line, ("ifdare", 50)), told(Fraction(-b, 2)))
            self.assertEqual(last(*line, ("iflook", 1)), told(Fraction(99 - b, 100)))

    def test_no_looks(self):
        for n, b in itertools.product(range(1, 9), (1, 9)):
            for k in range(1, n + 1):
                line = [("begin", n, 0, k, b)]
                self.assertEqual(last(*line, ("iflook", 0)), [0, k, 1])
                self.assertEqual(last(*line, ("ifdare", 100)), [0, k, 1])
                # Who waits loses a misdeed only where there are as many as days.
                self.assertEqual(last(*line, ("ifdare", 0)), [0, min(k, n - 1), 1])
                self.assertEqual(last(*line, ("ifdare", 25)), told(k if k < n else k - Fraction(3, 4)))

    def test_no_misdeeds(self):
        for n, b in itertools.product(range(1, 9), (1, 9)):
            for m in range(n + 1):
                line = [("begin", n, m, 0, b)]
                self.assertEqual(ask(*line, ("iflook", 0), ("ifdare", 0))[1:], [[0, 0, 1]] * 2)
                if m:
                    self.assertEqual(ask(*line, *[("iflook", x) for x in range(1, 51)])[1:], [[0, 0, 1]] * 50)
                    self.assertEqual(ask(*line, *[("iflook", x) for x in range(51, 101)])[1:], [[0, 0, 1]] * 50)

    def test_as_many_looks_as_days(self):
        # Not to dare is best there: who dares with y of 100 loses the fine as often.
        for n, k, b, y in itertools.product((1, 3, 8), (1, 3, 8), (1, 9), (0, 1, 50, 100)):
            if k <= n:
                self.assertEqual(last(("begin", n, n, k, b), ("ifdare", y)), told(Fraction(-b * y, 100)))

    def test_a_fine_of_nine(self):
        # 2 1 2: behind the day looked at and waited 1, not looked at and waited 0, dared 1 or -9.
        line = [("begin", 2, 1, 2, 9)]
        self.assertEqual(ask(*line, ("iflook", 10), ("iflook", 9))[1:], [[0, 1, 10], [0, 1, 10]])
        self.assertEqual(ask(*line, ("ifdare", 10), ("ifdare", 9))[1:], [[0, 0, 1], [0, 9, 100]])


class EverySeasonTest(unittest.TestCase):
    def test_several_chances_of_all_that_can_be_left(self):
        for left, line in reached():
            n, m, k, b = left
            calls = [call for call in IFS if (call[1] == 0 or (m if call[0] == "iflook" else k))]
            expected = []
            for name, x in calls:
                reckon = if_looked if name == "iflook" else if_dared
                expected.append(told(reckon(n, m, k, b, Fraction(x, 100))))
            self.assertEqual(ask(*line, *calls)[len(line):], expected, left)

    def test_every_chance_of_some(self):
        for n, m, k, b in ((1, 1, 1, 1), (2, 1, 1, 2), (5, 2, 3, 4), (8, 3, 8, 9), (8, 8, 8, 1), (7, 6, 2, 5)):
            for name, reckon in (("iflook", if_looked), ("ifdare", if_dared)):
                for calls in every_chance(name):
                    asked = ask(("begin", n, m, k, b), *calls)[1:]
                    self.assertEqual(asked, [told(reckon(n, m, k, b, Fraction(x, 100))) for name, x in calls])

    def test_nobody_does_better_with_any_other_chance(self):
        for n, m, k, b in seasons():
            if b not in (1, 2, 5, 9):
                continue
            line = [("begin", n, m, k, b), ("worth",)]
            looks = [("iflook", x) for x in (range(0, 101, 4) if m else (0,))]
            dares = [("ifdare", y) for y in (range(0, 101, 4) if k else (0,))]
            here, *others = [fraction(answer) for answer in ask(*line, *looks, *dares)[1:]]
            self.assertGreaterEqual(min(others[:len(looks)]), here, (n, m, k, b))
            self.assertLessEqual(max(others[len(looks):]), here, (n, m, k, b))

    def test_the_best_chance_is_worth_what_it_is_worth(self):
        found = 0
        for n, m, k, b in seasons():
            line = [("begin", n, m, k, b)]
            here, look, dare = ask(*line, ("worth",), ("look",), ("dare",))[1:]
            for name, chance in (("iflook", look), ("ifdare", dare)):
                hundredths = fraction(chance) * 100
                if hundredths.denominator == 1:
                    found += 1
                    self.assertEqual(last(*line, (name, hundredths.numerator)), here, (name, n, m, k, b))
        self.assertGreater(found, 1000)

    def test_of_what_is_left_not_of_what_was(self):
        line = [("begin", 6, 3, 5, 3), ("day", 0, 1), ("day", 1, 0), ("day", 0, 1)]
        self.assertEqual(ask(*line, *IFS)[4:], ask(("begin", 3, 2, 3, 3), *IFS)[1:])

    def test_numbers_stay_small(self):
        for left, line in reached():
            n, m, k, b = left
            if m and k:
                for answer in ask(*line, ("iflook", 99), ("ifdare", 99), ("iflook", 1), ("ifdare", 1))[len(line):]:
                    self.assertLess(max(abs(answer[1]), answer[2]), 2 ** 63)
                    self.assertEqual(told(fraction(answer)), answer)


class RefusalTest(unittest.TestCase):
    def test_no_days_to_come(self):
        for line in (
            [("begin", 1, 0, 0, 2), ("day", 0, 0)],
            [("begin", 1, 1, 1, 2), ("day", 0, 1)],
            [("begin", 8, 8, 8, 9), ("day", 1, 1)],
        ):
            for name, x in itertools.product(("iflook", "ifdare"), (0, 1, 100, 101, LARGEST)):
                self.assertEqual(last(*line, (name, x)), [-6], (line, name, x))

    def test_above_a_hundred(self):
        for m, k in itertools.product((0, 2), repeat=2):
            for name, x in itertools.product(("iflook", "ifdare"), (101, 102, 1000, LARGEST)):
                self.assertEqual(last(("begin", 3, m, k, 4), (name, x)), [-22], (m, k, name, x))

    def test_without_any_left(self):
        for x in (1, 50, 100):
            self.assertEqual(last(("begin", 3, 0, 2, 4), ("iflook", x)), [-33])
            self.assertEqual(last(("begin", 3, 0, 0, 4), ("iflook", x)), [-33])
            self.assertEqual(last(("begin", 3, 2, 0, 4), ("ifdare", x)), [-33])
            self.assertEqual(last(("begin", 3, 0, 0, 4), ("ifdare", x)), [-33])
            self.assertEqual(last(("begin", 3, 1, 2, 4), ("day", 1, 0), ("iflook", x)), [-33])
            self.assertEqual(last(("begin", 3, 2, 1, 4), ("day", 0, 1), ("ifdare", x)), [-33])

    def test_none_is_needed_for_a_chance_of_nothing(self):
        self.assertEqual(last(("begin", 3, 0, 2, 4), ("iflook", 0)), told(value(3, 0, 2, 4)))
        self.assertEqual(last(("begin", 3, 2, 0, 4), ("ifdare", 0)), [0, 0, 1])

    def test_the_misdeeds_are_none_of_the_looks(self):
        # iflook asks for a look left alone, ifdare for a misdeed left alone.
        self.assertEqual(last(("begin", 3, 2, 0, 4), ("iflook", 50)), [0, 0, 1])
        self.assertEqual(last(("begin", 3, 0, 2, 4), ("ifdare", 50)), [0, 2, 1])

    def test_nothing_is_changed(self):
        for begin in ((4, 2, 3, 5), (4, 0, 3, 5), (4, 2, 0, 5)):
            line = [("begin",) + begin, ("day", 0, 0)]
            before = ask(*line, *QUESTIONS)[2:]
            for name, x in itertools.product(("iflook", "ifdare"), (0, 1, 100, 101, LARGEST)):
                self.assertEqual(ask(*line, (name, x), *QUESTIONS)[3:], before)


if __name__ == "__main__":
    unittest.main()
