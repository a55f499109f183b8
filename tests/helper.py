"""What the tests share: how to ask by names, and an account of the document that shares nothing with the program."""

from fractions import Fraction
from functools import lru_cache
from itertools import combinations

from whentolook.seasons import answers

NAMES = (
    "begin", "day", "gain", "left", "worth", "look", "dare", "worthof", "iffine",
    "iflook", "ifdare", "caught", "done", "looked", "spare", "looksfor", "finefor",
)
COUNTS = {
    "begin": 4, "day": 2, "worthof": 3, "iffine": 1, "iflook": 1, "ifdare": 1,
    "looked": 1, "spare": 1, "looksfor": 1, "finefor": 1,
}
LARGEST = 4294967295
# All questions of a season that have no numbers.
QUESTIONS = (("gain",), ("left",), ("worth",), ("look",), ("dare",))


def written(calls):
    """The calls, each a name and its numbers, as one list."""
    line = []
    for call in calls:
        if len(call) - 1 != COUNTS.get(call[0], 0):
            raise ValueError(call)
        line.append(NAMES.index(call[0]))
        line.extend(call[1:])
    return line


def split(told):
    """The answers, one list each, from the one list with counts."""
    parts = []
    place = 0
    while place < len(told):
        count = told[place]
        if count < 1 or place + 1 + count > len(told):
            raise ValueError(told)
        parts.append(told[place + 1:place + 1 + count])
        place += 1 + count
    return parts


def ask(*calls):
    """One answer for each call of a line."""
    parts = split(answers(written(calls)))
    if len(parts) != len(calls):
        raise ValueError(parts)
    return parts


def last(*calls):
    return ask(*calls)[-1]


def told(fraction):
    """How a fraction is answered."""
    fraction = Fraction(fraction)
    return [0, fraction.numerator, fraction.denominator]


def game(days, looks, misdeeds, fine):
    """The day's four outcomes for the other: (looked, dared) -> what comes of it, all played best behind."""
    table = {(0, 0): value(days - 1, looks, misdeeds, fine)}
    if looks:
        table[1, 0] = value(days - 1, looks - 1, misdeeds, fine)
    if misdeeds:
        table[0, 1] = 1 + value(days - 1, looks, misdeeds - 1, fine)
    if looks and misdeeds:
        table[1, 1] = Fraction(-fine)
    return table


@lru_cache(maxsize=None)
def value(days, looks, misdeeds, fine):
    """What it's worth, day by day, as the value of a game of two by two."""
    if days == 0 or misdeeds == 0:
        return Fraction(0)
    table = game(days, looks, misdeeds, fine)
    if looks == 0:
        return max(table[0, 0], table[0, 1])
    least = max(min(table[0, d], table[1, d]) for d in (0, 1))
    most = min(max(table[l, 0], table[l, 1]) for l in (0, 1))
    if least == most:
        return least
    cross = table[0, 0] * table[1, 1] - table[0, 1] * table[1, 0]
    return cross / (table[0, 0] + table[1, 1] - table[0, 1] - table[1, 0])


@lru_cache(maxsize=None)
def look_by_sets(days, looks, fine):
    """The inspector's best chance, set by set as the document tells it."""
    if looks == 0:
        return Fraction(0)
    every = 0
    with_next = 0
    for size in range(min(days, looks) + 1):
        for chosen in combinations(range(days), size):
            heavy = fine ** (looks - size)
            every += heavy
            if 0 in chosen:
                with_next += heavy
    return Fraction(with_next, every)


def dare_by_outcomes(days, looks, misdeeds, fine):
    """The other's best chance, from the outcomes of the day."""
    if misdeeds == 0:
        return Fraction(0)
    if looks == 0:
        return Fraction(1)
    table = game(days, looks, misdeeds, fine)
    # y * (1, 1) + (1 - y) * (1, 0) = y * (0, 1) + (1 - y) * (0, 0), for y.
    return (table[0, 0] - table[1, 0]) / (table[1, 1] - table[1, 0] - table[0, 1] + table[0, 0])


class Account:
    """A season played by the document's words."""

    def __init__(self, days, looks, misdeeds, fine):
        self.total = days
        self.looks = looks
        self.misdeeds = misdeeds
        self.fine = fine
        self.played = []

    def play(self, looked, dared):
        self.played.append((looked, dared))

    def was_caught(self):
        return (1, 1) in self.played

    def days_left(self):
        return 0 if self.was_caught() else self.total - len(self.played)

    def looks_left(self):
        return self.looks - sum(looked for looked, dared in self.played)

    def misdeeds_left(self):
        return self.misdeeds - sum(dared for looked, dared in self.played)

    def gained(self):
        return self.played.count((0, 1)) - self.fine * self.played.count((1, 1))

    def answers(self):
        """What all of QUESTIONS answer now."""
        days, looks, misdeeds = self.days_left(), self.looks_left(), self.misdeeds_left()
        asked = [
            [1 if self.was_caught() else 0, self.gained()],
            [days, looks, misdeeds, self.fine],
            told(value(days, looks, misdeeds, self.fine)),
        ]
        if days == 0:
            return asked + [[-6], [-6]]
        return asked + [
            told(look_by_sets(days, looks, self.fine)),
            told(dare_by_outcomes(days, looks, misdeeds, self.fine)),
        ]
