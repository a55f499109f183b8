"""Point 1 of the promises: begin, day, gain, left; and what holds ahead of a begin."""

import itertools
import random
import unittest

from helper import COUNTS, LARGEST, NAMES, QUESTIONS, Account, ask, last


class BeginTest(unittest.TestCase):
    def test_every_season_that_is_allowed(self):
        for n in range(1, 9):
            for m, k, b in itertools.product(range(n + 1), range(n + 1), range(1, 10)):
                asked = ask(("begin", n, m, k, b), ("left",), ("gain",))
                self.assertEqual(asked, [[0], [n, m, k, b], [0, 0]])

    def test_refusals(self):
        wrong = [
            (0, 0, 0, 1), (9, 0, 0, 1), (9, 9, 9, 9), (LARGEST, 0, 0, 1), (LARGEST, LARGEST, LARGEST, 1),
            (1, 2, 0, 1), (8, 9, 8, 1), (5, LARGEST, 0, 1),
            (1, 0, 2, 1), (8, 8, 9, 1), (5, 0, LARGEST, 1),
            (3, 1, 1, 0), (3, 1, 1, 10), (3, 1, 1, LARGEST),
            (LARGEST, LARGEST, LARGEST, LARGEST), (0, 0, 0, 0),
        ]
        for numbers in wrong:
            with self.subTest(numbers):
                self.assertEqual(last(("begin",) + numbers), [-22])

    def test_around_every_bound(self):
        for n, m, k, b in itertools.product((0, 1, 2, 7, 8, 9, 10), range(11), range(11), (0, 1, 9, 10)):
            allowed = n in range(1, 9) and m <= n and k <= n and b in range(1, 10)
            self.assertEqual(last(("begin", n, m, k, b)), [0 if allowed else -22], (n, m, k, b))

    def test_begins_anew(self):
        asked = ask(("begin", 3, 1, 2, 4), ("day", 1, 1), ("begin", 5, 2, 3, 7), ("gain",), ("left",), ("day", 0, 1))
        self.assertEqual(asked, [[0], [0, -4], [0], [0, 0], [5, 2, 3, 7], [0, 1]])

    def test_refused_begin_behind_another_changes_nothing(self):
        for days in ([], [("day", 0, 1)], [("day", 0, 1), ("day", 1, 1)]):
            line = [("begin", 4, 2, 3, 5)] + days
            before = ask(*line, *QUESTIONS)[len(line):]
            for wrong in ((0, 0, 0, 1), (9, 1, 1, 1), (2, 3, 1, 1), (2, 1, 3, 1), (2, 1, 1, 0), (2, 1, 1, LARGEST)):
                asked = ask(*line, ("begin",) + wrong, *QUESTIONS)
                self.assertEqual(asked[len(line)], [-22])
                self.assertEqual(asked[len(line) + 1:], before)


class AheadOfBeginTest(unittest.TestCase):
    def test_every_other_call(self):
        for name in NAMES[1:]:
            for number in (0, 1, 8, LARGEST):
                call = (name,) + (number,) * COUNTS.get(name, 0)
                with self.subTest(call):
                    self.assertEqual(ask(call), [[-11]])
                    self.assertEqual(ask(call, call), [[-11], [-11]])

    def test_behind_a_refused_begin(self):
        refused = ("begin", 9, 0, 0, 1)
        for name in NAMES[1:]:
            call = (name,) + (1,) * COUNTS.get(name, 0)
            self.assertEqual(ask(refused, call), [[-22], [-11]], name)

    def test_a_begin_behind_them_is_as_ever(self):
        calls = [(name,) + (1,) * COUNTS.get(name, 0) for name in NAMES[1:]]
        asked = ask(*calls, ("begin", 2, 1, 1, 3), *QUESTIONS)
        self.assertEqual(asked[:16], [[-11]] * 16)
        self.assertEqual(asked[16:], [[0]] + Account(2, 1, 1, 3).answers())


class DayTest(unittest.TestCase):
    def test_what_each_day_brings(self):
        begin = ("begin", 3, 2, 2, 4)
        self.assertEqual(ask(begin, ("day", 0, 0), ("gain",), ("left",))[1:], [[0, 0], [0, 0], [2, 2, 2, 4]])
        self.assertEqual(ask(begin, ("day", 1, 0), ("gain",), ("left",))[1:], [[0, 0], [0, 0], [2, 1, 2, 4]])
        self.assertEqual(ask(begin, ("day", 0, 1), ("gain",), ("left",))[1:], [[0, 1], [0, 1], [2, 2, 1, 4]])
        self.assertEqual(ask(begin, ("day", 1, 1), ("gain",), ("left",))[1:], [[0, -4], [1, -4], [0, 1, 1, 4]])

    def test_gains_add_up(self):
        asked = ask(("begin", 8, 3, 7, 9), *[("day", 0, 1)] * 4, ("day", 1, 0), ("day", 0, 1), ("day", 1, 1), ("gain",))
        self.assertEqual(asked[1:], [[0, 1], [0, 2], [0, 3], [0, 4], [0, 4], [0, 5], [0, -4], [1, -4]])

    def test_as_much_gained_as_fined_is_nothing(self):
        asked = ask(("begin", 3, 1, 3, 2), ("day", 0, 1), ("day", 0, 1), ("day", 1, 1), ("gain",), ("left",))
        self.assertEqual(asked[3:], [[0, 0], [1, 0], [0, 0, 0, 2]])

    def test_no_days_to_come(self):
        asked = ask(("begin", 1, 1, 1, 1), ("day", 0, 0), ("day", 0, 0), ("day", 1, 1), ("gain",), ("left",))
        self.assertEqual(asked[1:], [[0, 0], [-6], [-6], [0, 0], [0, 1, 1, 1]])

    def test_nothing_comes_behind_a_catch(self):
        for day in itertools.product((0, 1, 2, LARGEST), repeat=2):
            asked = ask(("begin", 8, 8, 8, 9), ("day", 1, 1), ("day",) + day, ("gain",), ("left",))
            self.assertEqual(asked[1:], [[0, -9], [-6], [1, -9], [0, 7, 7, 9]])

    def test_numbers_above_one(self):
        for day in ((2, 0), (0, 2), (2, 2), (1, 2), (2, 1), (LARGEST, 0), (0, LARGEST), (LARGEST, LARGEST)):
            self.assertEqual(last(("begin", 4, 2, 2, 3), ("day",) + day), [-22], day)

    def test_none_left(self):
        self.assertEqual(last(("begin", 2, 0, 1, 3), ("day", 1, 0)), [-33])
        self.assertEqual(last(("begin", 2, 0, 1, 3), ("day", 1, 1)), [-33])
        self.assertEqual(last(("begin", 2, 1, 0, 3), ("day", 0, 1)), [-33])
        self.assertEqual(last(("begin", 2, 1, 0, 3), ("day", 1, 1)), [-33])
        self.assertEqual(last(("begin", 2, 0, 0, 3), ("day", 1, 1)), [-33])
        self.assertEqual(last(("begin", 3, 1, 1, 3), ("day", 1, 0), ("day", 1, 0)), [-33])
        self.assertEqual(last(("begin", 3, 1, 1, 3), ("day", 0, 1), ("day", 0, 1)), [-33])

    def test_the_refusal_named_first_is_answered(self):
        over = [("begin", 1, 0, 0, 3), ("day", 0, 0)]
        self.assertEqual(last(*over, ("day", 2, 2)), [-6])
        self.assertEqual(last(*over, ("day", 1, 1)), [-6])
        self.assertEqual(last(*over, ("day", LARGEST, 0)), [-6])
        bare = ("begin", 2, 0, 0, 3)
        self.assertEqual(last(bare, ("day", 2, 1)), [-22])
        self.assertEqual(last(bare, ("day", 1, 2)), [-22])
        self.assertEqual(last(bare, ("day", 1, LARGEST)), [-22])

    def test_refusals_change_nothing(self):
        for begin in ((3, 0, 2, 5), (3, 2, 0, 5), (3, 0, 0, 5), (3, 2, 2, 5)):
            line = [("begin",) + begin]
            for day in ((0, 2), (2, 0), (1, 0), (0, 1), (1, 1), (LARGEST, LARGEST)):
                asked = ask(*line, ("day",) + day, *QUESTIONS)
                if asked[1][0] < 0:
                    self.assertEqual(len(asked[1]), 1)
                    self.assertEqual(asked[2:], Account(*begin).answers(), (begin, day))


class PlayedTest(unittest.TestCase):
    def check(self, begin, days):
        """Plays the days, asks behind each what is left and worth, and holds it against the account."""
        account = Account(*begin)
        asked = QUESTIONS[:5]
        line = [("begin",) + begin, *asked]
        expected = [[0], *[account.answer(*question) for question in asked]]
        for day in days:
            for call in (("day",) + day, *asked):
                line.append(call)
                expected.append(account.answer(*call))
        self.assertEqual(ask(*line), expected, (begin, days))

    def test_all_plays_of_short_seasons(self):
        for n in range(1, 4):
            plays = list(itertools.product(itertools.product((0, 1), repeat=2), repeat=n + 1))
            for m, k, b in itertools.product(range(n + 1), range(n + 1), (1, 3, 9)):
                for days in plays:
                    self.check((n, m, k, b), days)

    def test_many_plays_of_long_seasons(self):
        source = random.Random(20)
        for turn in range(3000):
            n = source.randint(4, 8)
            begin = (n, source.randint(0, n), source.randint(0, n), source.randint(1, 9))
            self.check(begin, [(source.randint(0, 1), source.randint(0, 1)) for day in range(9)])

    def test_waiting_leaves_more_than_days(self):
        for n, b in itertools.product(range(1, 9), (1, 2, 9)):
            self.check((n, n, n, b), [(0, 0)] * (n + 1))
            self.check((n, n, n, b), [(1, 0)] * (n + 1))
            self.check((n, n, n, b), [(0, 1)] * (n + 1))


if __name__ == "__main__":
    unittest.main()
