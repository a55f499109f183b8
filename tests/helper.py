"""What the tests share: how to ask by names, and an account of the document that shares nothing with the program."""

from fractions import Fraction
from functools import lru_cache
from itertools import combinations, product

from whentolook.seasons import answers

NAMES = (
    "begin", "day", "gain", "left", "worth", "look", "dare", "worthof", "iffine",
    "iflook", "ifdare", "caught", "done", "looked", "spare", "looksfor", "finefor",
)
COUNTS = {
    "begin": 4, "day": 2, "worthof": 3, "iffine": 1, "iflook": 1, "ifdare": 1,
    "looked": 1, "spare": 1, "looksfor": 1, "finefor": 1,
}
LARGEST = 4294967295
CHANCES = (("worth",), ("look",), ("dare",))
# All questions of a season that have no numbers.
QUESTIONS = (("gain",), ("left",)) + CHANCES + (("caught",), ("done",))


def written(calls):
    """The calls, each a name and its numbers, as one list."""
    line = []
    for call in calls:
        if len(call) - 1 != COUNTS.get(call[0], 0):
            raise ValueError(call)
        line.append(NAMES.index(call[0]))
        line.extend(call[1:])
    if not 1 <= len(calls) <= 60 or len(line) > 300:
        raise ValueError("no such list is handed in")
    return line


def split(told):
    """The answers, one list each, from the one list with counts."""
    parts = []
    place = 0
    while place < len(told):
        count = told[place]
        if count < 1 or place + 1 + count > len(told):
            raise ValueError(told)
        parts.append(told[place + 1:place + 1 + count])
        place += 1 + count
    return parts


def ask(*calls):
    """One answer for each call of a line."""
    parts = split(answers(written(calls)))
    if len(parts) != len(calls):
        raise ValueError(parts)
    return parts


def last(*calls):
    return ask(*calls)[-1]


def told(fraction):
    """How a fraction is answered."""
    fraction = Fraction(fraction)
    return [0, fraction.numerator, fraction.denominator]


def fraction(answer):
    return Fraction(answer[1], answer[2])


def seasons():
    """All that can be begun."""
    for n in range(1, 9):
        yield from product((n,), range(n + 1), range(n + 1), range(1, 10))


def reached():
    """All that can be left with days to come, each with a line that leaves it."""
    for n, m, k, b in product(range(1, 9), range(9), range(9), range(1, 10)):
        days = max(n, m, k)
        yield (n, m, k, b), [("begin", days, m, k, b)] + [("day", 0, 0)] * (days - n)


def game(days, looks, misdeeds, fine):
    """The day's four outcomes for the other: (looked, dared) -> what comes of it, all played best behind."""
    table = {(0, 0): value(days - 1, looks, misdeeds, fine)}
    if looks:
        table[1, 0] = value(days - 1, looks - 1, misdeeds, fine)
    if misdeeds:
        table[0, 1] = 1 + value(days - 1, looks, misdeeds - 1, fine)
    if looks and misdeeds:
        table[1, 1] = Fraction(-fine)
    return table


@lru_cache(maxsize=None)
def value(days, looks, misdeeds, fine):
    """What it's worth, day by day, as the value of a game of two by two."""
    if days == 0 or misdeeds == 0:
        return Fraction(0)
    table = game(days, looks, misdeeds, fine)
    if looks == 0:
        return max(table[0, 0], table[0, 1])
    least = max(min(table[0, d], table[1, d]) for d in (0, 1))
    most = min(max(table[l, 0], table[l, 1]) for l in (0, 1))
    if least == most:
        return least
    cross = table[0, 0] * table[1, 1] - table[0, 1] * table[1, 0]
    return cross / (table[0, 0] + table[1, 1] - table[0, 1] - table[1, 0])


@lru_cache(maxsize=None)
def look_by_sets(days, looks, fine):
    """The inspector's best chance, set by set as the document tells it."""
    if looks == 0:
        return Fraction(0)
    every = 0
    with_next = 0
    for size in range(min(days, looks) + 1):
        for chosen in combinations(range(days), size):
            heavy = fine ** (looks - size)
            every += heavy
            if 0 in chosen:
                with_next += heavy
    return Fraction(with_next, every)


def dare_by_outcomes(days, looks, misdeeds, fine):
    """The other's best chance, from the outcomes of the day."""
    if misdeeds == 0:
        return Fraction(0)
    if looks == 0:
        return Fraction(1)
    table = game(days, looks, misdeeds, fine)
    # y * (1, 1) + (1 - y) * (1, 0) = y * (0, 1) + (1 - y) * (0, 0), for y.
    return (table[0, 0] - table[1, 0]) / (table[1, 1] - table[1, 0] - table[0, 1] + table[0, 0])


def if_looked(days, looks, misdeeds, fine, chance):
    """What the other gains who does what's better for them against that chance of a look."""
    table = game(days, looks, misdeeds, fine)
    if misdeeds == 0:
        return Fraction(0)
    if looks == 0:
        return max(table[0, 0], table[0, 1])
    return max(chance * table[1, dared] + (1 - chance) * table[0, dared] for dared in (0, 1))


def if_dared(days, looks, misdeeds, fine, chance):
    """What the other gains if the inspector does what's worse for them against that chance of a misdeed."""
    table = game(days, looks, misdeeds, fine)
    if misdeeds == 0:
        return Fraction(0)
    return min(chance * table[looked, 1] + (1 - chance) * table[looked, 0] for looked in ((0, 1) if looks else (0,)))


@lru_cache(maxsize=None)
def ends(days, looks, misdeeds, fine):
    """How likely each end is, as (caught, done unseen) -> chance, if each day is played by the best chances."""
    if days == 0:
        return {(0, 0): Fraction(1)}
    found = {}
    look = look_by_sets(days, looks, fine)
    dare = dare_by_outcomes(days, looks, misdeeds, fine)
    for looked, dared in ((0, 0), (0, 1), (1, 0), (1, 1)):
        likely = (look if looked else 1 - look) * (dare if dared else 1 - dare)
        if likely == 0:
            continue
        behind = {(1, 0): Fraction(1)}
        if not (looked and dared):
            behind = ends(days - 1, looks - looked, misdeeds - dared, fine)
        for (caught, done), chance in behind.items():
            end = (caught, done + (dared if not looked else 0))
            found[end] = found.get(end, 0) + likely * chance
    return found


def caught_by_ends(days, looks, misdeeds, fine):
    return sum(chance for (caught, done), chance in ends(days, looks, misdeeds, fine).items() if caught)


def done_by_ends(days, looks, misdeeds, fine):
    return sum(done * chance for (caught, done), chance in ends(days, looks, misdeeds, fine).items())


@lru_cache(maxsize=None)
def looks_left_behind(days, looks, fine, passed):
    """How likely so many looks are left behind so many days, if the other does nothing: looks -> chance."""
    if passed == 0:
        return {looks: Fraction(1)}
    found = {}
    for left, likely in looks_left_behind(days, looks, fine, passed - 1).items():
        look = look_by_sets(days - passed + 1, left, fine)
        if look:
            found[left - 1] = found.get(left - 1, 0) + likely * look
        found[left] = found.get(left, 0) + likely * (1 - look)
    return found


def looked_on(days, looks, fine, day):
    """How likely that day from now is looked at, if the other does nothing."""
    left_then = looks_left_behind(days, looks, fine, day)
    return sum(likely * look_by_sets(days - day, left, fine) for left, likely in left_then.items())


def spare_in_the_end(days, looks, fine, spare):
    return looks_left_behind(days, looks, fine, days).get(spare, Fraction(0))


def looks_enough(days, misdeeds, fine, parts):
    return min(looks for looks in range(9) if value(days, looks, misdeeds, fine) < Fraction(1, parts))


def fines_enough(days, looks, misdeeds, parts):
    return [fine for fine in range(1, 100) if value(days, looks, misdeeds, fine) < Fraction(1, parts)]


class Account:
    """A season played by the document's words."""

    def __init__(self, days, looks, misdeeds, fine):
        self.total = days
        self.looks = looks
        self.misdeeds = misdeeds
        self.fine = fine
        self.played = []

    def play(self, looked, dared):
        self.played.append((looked, dared))

    def was_caught(self):
        return (1, 1) in self.played

    def days_left(self):
        return 0 if self.was_caught() else self.total - len(self.played)

    def looks_left(self):
        return self.looks - sum(looked for looked, dared in self.played)

    def misdeeds_left(self):
        return self.misdeeds - sum(dared for looked, dared in self.played)

    def gained(self):
        return self.played.count((0, 1)) - self.fine * self.played.count((1, 1))

    def left(self):
        return (self.days_left(), self.looks_left(), self.misdeeds_left(), self.fine)

    def answer(self, name, *numbers):
        """What a call answers; a day that's not refused is played."""
        return getattr(self, "tell_" + name)(*numbers)

    def answers(self):
        """What all of QUESTIONS answer now."""
        return [self.answer(*question) for question in QUESTIONS]

    def tell_day(self, looked, dared):
        if self.days_left() == 0:
            return [-6]
        if looked > 1 or dared > 1:
            return [-22]
        if looked > self.looks_left() or dared > self.misdeeds_left():
            return [-33]
        self.play(looked, dared)
        return [0, self.gained()]

    def tell_gain(self):
        return [1 if self.was_caught() else 0, self.gained()]

    def tell_left(self):
        return list(self.left())

    def tell_worth(self):
        return told(value(*self.left()))

    def tell_look(self):
        days, looks, misdeeds, fine = self.left()
        return told(look_by_sets(days, looks, fine)) if days else [-6]

    def tell_dare(self):
        return told(dare_by_outcomes(*self.left())) if self.days_left() else [-6]

    def tell_worthof(self, days, looks, misdeeds):
        if days not in range(1, 9) or looks > days or misdeeds > days:
            return [-22]
        return told(value(days, looks, misdeeds, self.fine))

    def tell_iffine(self, fine):
        return told(value(*self.left()[:3], fine)) if fine in range(1, 10) else [-22]

    def tell_iflook(self, hundredths):
        if self.days_left() == 0:
            return [-6]
        if hundredths > 100:
            return [-22]
        if hundredths > 0 and self.looks_left() == 0:
            return [-33]
        return told(if_looked(*self.left(), Fraction(hundredths, 100)))

    def tell_ifdare(self, hundredths):
        if self.days_left() == 0:
            return [-6]
        if hundredths > 100:
            return [-22]
        if hundredths > 0 and self.misdeeds_left() == 0:
            return [-33]
        return told(if_dared(*self.left(), Fraction(hundredths, 100)))

    def tell_caught(self):
        return told(caught_by_ends(*self.left()))

    def tell_done(self):
        return told(done_by_ends(*self.left()))

    def tell_looked(self, day):
        days, looks, misdeeds, fine = self.left()
        return told(looked_on(days, looks, fine, day)) if day < days else [-22]

    def tell_spare(self, spare):
        days, looks, misdeeds, fine = self.left()
        return told(spare_in_the_end(days, looks, fine, spare)) if spare <= looks else [-22]

    def tell_looksfor(self, parts):
        days, looks, misdeeds, fine = self.left()
        return [looks_enough(days, misdeeds, fine, parts)] if parts in range(1, 1001) else [-22]

    def tell_finefor(self, parts):
        if parts not in range(1, 1001):
            return [-22]
        return (fines_enough(*self.left()[:3], parts) or [-33])[:1]


def by_account(calls):
    """What the document asks of a whole line."""
    account = None
    found = []
    for name, *numbers in calls:
        if name == "begin":
            days, looks, misdeeds, fine = numbers
            allowed = days in range(1, 9) and looks <= days and misdeeds <= days and fine in range(1, 10)
            if allowed:
                account = Account(*numbers)
            found.append([0 if allowed else -22])
        else:
            found.append([-11] if account is None else account.answer(name, *numbers))
    return found
