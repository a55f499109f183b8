"""Point 3 of the promises: caught, done, looked, spare."""

import itertools
import unittest
from fractions import Fraction
from functools import lru_cache

from helper import (
    LARGEST, QUESTIONS, ask, caught_by_ends, done_by_ends, fraction, last, looked_on, reached, spare_in_the_end, told,
)

PLAYED = (("caught",), ("done",))


@lru_cache(maxsize=None)
def all_played():
    """What caught and done answer wherever there are days to come: what is left -> both answers."""
    return {left: ask(*line, *PLAYED)[len(line):] for left, line in reached()}


class KnownTest(unittest.TestCase):
    """Numbers reckoned by hand."""

    def test_two_days_one_look_one_misdeed(self):
        # The first day is looked at with 1 of 4 and dared with 1 of 4. Behind a look it's dared without fear; behind
        # a day that was neither nothing is dared.
        asked = ask(("begin", 2, 1, 1, 2), ("caught",), ("done",))[1:]
        self.assertEqual(asked, [[0, 1, 16], told(Fraction(3, 16) + Fraction(3, 16))])

    def test_two_days_one_look_two_misdeeds(self):
        # The first day by 1 of 5 and 1 of 5. Behind a misdeed unseen there's a look for the last day: none is dared.
        asked = ask(("begin", 2, 1, 2, 3), ("caught",), ("done",))[1:]
        self.assertEqual(asked, [[0, 1, 25], told(Fraction(4, 25) + Fraction(4, 25))])

    def test_three_days_one_look(self):
        # Three sets of one day, of 1 each, and the empty one, of 5: 8 in all.
        asked = ask(("begin", 3, 1, 2, 5), ("spare", 0), ("spare", 1), ("looked", 0), ("looked", 1), ("looked", 2))
        self.assertEqual(asked[1:], [[0, 3, 8], [0, 5, 8], [0, 1, 8], [0, 1, 8], [0, 1, 8]])

    def test_three_days_two_looks(self):
        # Three sets of two days, of 1; three of one, of 2; the empty one, of 4: 13 in all.
        asked = ask(("begin", 3, 2, 1, 2), ("spare", 0), ("spare", 1), ("spare", 2), ("looked", 0), ("looked", 2))
        self.assertEqual(asked[1:], [[0, 3, 13], [0, 6, 13], [0, 4, 13], [0, 4, 13], [0, 4, 13]])


class CornerTest(unittest.TestCase):
    def test_one_day(self):
        for b in range(1, 10):
            line = [("begin", 1, 1, 1, b)]
            self.assertEqual(ask(*line, *PLAYED, ("looked", 0))[1:], [[0, 0, 1], [0, 0, 1], [0, 1, b + 1]])
            self.assertEqual(ask(*line, ("spare", 0), ("spare", 1))[1:], [[0, 1, b + 1], [0, b, b + 1]])

    def test_no_looks(self):
        for n, b in itertools.product(range(1, 9), (1, 9)):
            for k in range(n + 1):
                line = [("begin", n, 0, k, b)]
                self.assertEqual(ask(*line, *PLAYED, ("spare", 0))[1:], [[0, 0, 1], [0, k, 1], [0, 1, 1]])
                self.assertEqual(ask(*line, *[("looked", t) for t in range(n)])[1:], [[0, 0, 1]] * n)

    def test_as_many_looks_as_days(self):
        for n, b in itertools.product(range(1, 9), range(1, 10)):
            for k in range(n + 1):
                line = [("begin", n, n, k, b)]
                self.assertEqual(ask(*line, *PLAYED)[1:], [[0, 0, 1]] * 2)
                self.assertEqual(last(*line, ("spare", n)), told(Fraction(b, b + 1) ** n))
                self.assertEqual(last(*line, ("looked", n - 1)), [0, 1, b + 1])

    def test_no_misdeeds(self):
        for n, b in itertools.product(range(1, 9), (1, 5, 9)):
            for m in range(n + 1):
                line = [("begin", n, m, 0, b)]
                self.assertEqual(ask(*line, *PLAYED)[1:], [[0, 0, 1]] * 2)
                self.assertEqual(last(*line, ("looked", n - 1)), last(*line, ("look",)))

    def test_more_looks_than_days(self):
        # Each day is looked at with 1 of 4: as many looks are left as are too many, at the least.
        line = [("begin", 5, 5, 5, 3)] + [("day", 0, 0)] * 3
        asked = ask(*line, *[("spare", j) for j in range(6)])[4:]
        expected = [0, 0, 0, Fraction(1, 16), Fraction(6, 16), Fraction(9, 16)]
        self.assertEqual(asked, [told(number) for number in expected])
        self.assertEqual(ask(*line, ("looked", 0), ("looked", 1), ("looked", 2))[4:], [[0, 1, 4], [0, 1, 4], [-22]])

    def test_more_misdeeds_than_days(self):
        line = [("begin", 4, 1, 4, 3)] + [("day", 0, 0)] * 2
        self.assertEqual(ask(*line, *PLAYED)[3:], ask(("begin", 2, 1, 2, 3), *PLAYED)[1:])

    def test_behind_the_last_day_and_a_catch(self):
        for line, looks in (
            ([("begin", 1, 0, 1, 2), ("day", 0, 0)], 0),
            ([("begin", 2, 1, 2, 2), ("day", 0, 1), ("day", 0, 0)], 1),
            ([("begin", 8, 3, 5, 2), ("day", 1, 1)], 2),
            ([("begin", 8, 8, 8, 9), ("day", 0, 1), ("day", 1, 1)], 7),
        ):
            asked = ask(*line, *PLAYED, ("looked", 0), *[("spare", j) for j in range(looks + 2)])[len(line):]
            expected = [[0, 0, 1], [0, 0, 1], [-22]] + [[0, 0, 1]] * looks + [[0, 1, 1], [-22]]
            self.assertEqual(asked, expected, line)


class EverySeasonTest(unittest.TestCase):
    def test_caught_and_done(self):
        for left, asked in all_played().items():
            self.assertEqual(asked, [told(caught_by_ends(*left)), told(done_by_ends(*left))], left)

    def test_looked(self):
        for left, line in reached():
            n, m, k, b = left
            if k in (0, 3):
                asked = ask(*line, *[("looked", t) for t in range(n)])[len(line):]
                self.assertEqual(asked, [told(looked_on(n, m, b, t)) for t in range(n)], left)

    def test_spare(self):
        for left, line in reached():
            n, m, k, b = left
            if k in (0, 3):
                asked = ask(*line, *[("spare", j) for j in range(m + 1)])[len(line):]
                self.assertEqual(asked, [told(spare_in_the_end(n, m, b, j)) for j in range(m + 1)], left)

    def test_worth_is_what_is_done_less_the_fines(self):
        for left, line in reached():
            caught, done = [fraction(answer) for answer in all_played()[left]]
            self.assertEqual(fraction(last(*line, ("worth",))), done - left[3] * caught, left)
            self.assertTrue(0 <= caught <= 1 and 0 <= done <= min(left[0], left[2]), left)

    def test_every_day_is_looked_at_as_likely_as_every_other(self):
        for left, line in reached():
            asked = ask(*line, ("look",), *[("looked", t) for t in range(left[0])])[len(line):]
            self.assertEqual(asked, [asked[0]] * len(asked), left)

    def test_each_look_is_made_or_spare(self):
        for left, line in reached():
            n, m, k, b = left
            looked = ask(*line, *[("looked", t) for t in range(n)])[len(line):]
            spare = [fraction(answer) for answer in ask(*line, *[("spare", j) for j in range(m + 1)])[len(line):]]
            self.assertEqual(sum(spare), 1, left)
            kept = sum(j * chance for j, chance in enumerate(spare))
            self.assertEqual(sum(fraction(answer) for answer in looked), m - kept, left)

    def test_numbers_stay_small(self):
        for left, line in reached():
            for answer in all_played()[left] + ask(*line, ("looked", 0), ("spare", left[1]))[len(line):]:
                self.assertLess(max(answer[1], answer[2]), 2 ** 63)
                self.assertEqual(told(fraction(answer)), answer)

    def test_of_what_is_left_not_of_what_was(self):
        questions = [*PLAYED, ("looked", 1), ("spare", 1), ("spare", 2)]
        line = [("begin", 6, 3, 5, 3), ("day", 0, 1), ("day", 1, 0), ("day", 0, 1)]
        self.assertEqual(ask(*line, *questions)[4:], ask(("begin", 3, 2, 3, 3), *questions)[1:])


class PlayedByChancesTest(unittest.TestCase):
    """What comes of it in the mean, if each day is played with the chances that are told behind the days before."""

    def outcomes(self, line, other_dares):
        """All plays to the end: how likely each is, and the days it has."""
        ended = []
        ahead = [(Fraction(1), [])]
        while ahead:
            likely, days = ahead.pop()
            left, look, dare = ask(*line, *days, ("left",), ("look",), ("dare",))[-3:]
            if left[0] == 0:
                ended.append((likely, days))
                continue
            x = fraction(look)
            y = fraction(dare) if other_dares else Fraction(0)
            for looked, dared in itertools.product((0, 1), repeat=2):
                chance = likely * (x if looked else 1 - x) * (y if dared else 1 - y)
                if chance:
                    ahead.append((chance, days + [("day", looked, dared)]))
        return ended

    def test_every_day_is_looked_at_as_likely(self):
        for n, m, b in itertools.product(range(1, 6), range(6), (1, 4, 9)):
            if m <= n:
                ended = self.outcomes([("begin", n, m, 1, b)], False)
                first = fraction(last(("begin", n, m, 1, b), ("look",)))
                for day in range(n):
                    self.assertEqual(sum(likely for likely, days in ended if days[day][1]), first)

    def test_spare_is_what_is_left_then(self):
        for n, m, b in itertools.product(range(1, 6), range(6), (1, 4, 9)):
            if m <= n:
                line = [("begin", n, m, 1, b)]
                ended = self.outcomes(line, False)
                for spare in range(m + 1):
                    likely = sum(likely for likely, days in ended if last(*line, *days, ("left",))[1] == spare)
                    self.assertEqual(last(*line, ("spare", spare)), told(likely))

    def test_caught_and_done_are_what_comes_then(self):
        for n, m, k, b in itertools.product(range(1, 5), range(5), range(5), (1, 4, 9)):
            if m <= n and k <= n:
                line = [("begin", n, m, k, b)]
                ended = self.outcomes(line, True)
                caught = sum(likely for likely, days in ended if ("day", 1, 1) in days)
                done = sum(likely * days.count(("day", 0, 1)) for likely, days in ended)
                self.assertEqual(ask(*line, *PLAYED)[1:], [told(caught), told(done)], (n, m, k, b))

    def test_worth_is_what_is_gained_in_the_mean(self):
        for n, m, k, b in itertools.product(range(1, 5), range(5), range(5), (1, 4, 9)):
            if m <= n and k <= n:
                line = [("begin", n, m, k, b)]
                mean = sum(likely * last(*line, *days, ("gain",))[1] for likely, days in self.outcomes(line, True))
                self.assertEqual(told(mean), last(*line, ("worth",)))


class RefusalTest(unittest.TestCase):
    def test_no_such_day(self):
        for n, m in ((1, 0), (1, 1), (5, 2), (8, 0), (8, 8)):
            line = [("begin", n, m, 1, 3)]
            self.assertEqual(len(last(*line, ("looked", n - 1))), 3)
            for t in (n, n + 1, 100, LARGEST):
                self.assertEqual(last(*line, ("looked", t)), [-22], (n, m, t))
            self.assertEqual(last(*line, ("day", 0, 0), ("looked", n - 1)), [-22])

    def test_more_than_the_looks_left(self):
        for n, m in ((1, 0), (1, 1), (5, 2), (8, 0), (8, 8)):
            line = [("begin", n, m, 1, 3)]
            self.assertEqual(len(last(*line, ("spare", m))), 3)
            for j in (m + 1, m + 2, 100, LARGEST):
                self.assertEqual(last(*line, ("spare", j)), [-22], (n, m, j))
            if m:
                self.assertEqual(last(*line, ("day", 1, 0), ("spare", m)), [-22])

    def test_nothing_is_changed(self):
        line = [("begin", 5, 2, 3, 4), ("day", 0, 1)]
        before = ask(*line, *QUESTIONS)[2:]
        for call in (
            *PLAYED, ("looked", 0), ("looked", 3), ("looked", 4), ("looked", LARGEST),
            ("spare", 0), ("spare", 2), ("spare", 3), ("spare", LARGEST),
        ):
            self.assertEqual(ask(*line, call, *QUESTIONS)[3:], before, call)


if __name__ == "__main__":
    unittest.main()
