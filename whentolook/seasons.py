"""The calls on one season, as one list of whole numbers, and what they answer, as another."""

from whentolook.chances import caught_chance, dare_chance, done_mean, fine_for, look_chance, looks_for, spare_chance
from whentolook.chances import worth, worth_if_dared, worth_if_looked

NO_DAYS = -6
NOT_BEGUN = -11
NOT_ALLOWED = -22
NONE_LEFT = -33
NO_FINE = -33

MOST_DAYS = 8
MOST_FINE = 9
MOST_FINE_ASKED = 99
MOST_CHANCES = 100
MOST_PARTS = 1000

BEGIN = 0

# How many numbers stand behind each call's own, from begin to finefor.
NUMBERS_OF_CALLS = (4, 2, 0, 0, 0, 0, 0, 3, 1, 1, 1, 0, 0, 1, 1, 1, 1)


class Season:
    def __init__(self):
        self.begun = False
        self.days = 0
        self.looks = 0
        self.misdeeds = 0
        self.fine = 0
        self.gained = 0
        self.caught = 0


def season_allowed(days, looks, misdeeds):
    return 1 <= days <= MOST_DAYS and looks <= days and misdeeds <= days


def fine_allowed(fine):
    return 1 <= fine <= MOST_FINE


def parts_allowed(parts):
    return 1 <= parts <= MOST_PARTS


def told_fraction(fraction):
    return [0, fraction[0], fraction[1]]


def answer_begin(season, numbers):
    if not season_allowed(numbers[0], numbers[1], numbers[2]) or not fine_allowed(numbers[3]):
        return [NOT_ALLOWED]
    season.begun = True
    season.days = numbers[0]
    season.looks = numbers[1]
    season.misdeeds = numbers[2]
    season.fine = numbers[3]
    season.gained = 0
    season.caught = 0
    return [0]


def play_day(season, looked, dared):
    season.days -= 1
    season.looks -= looked
    season.misdeeds -= dared
    if dared == 1 and looked == 1:
        season.gained -= season.fine
        season.caught = 1
        # Nothing comes behind a misdeed that's seen: without days no other call needs to ask for the catch.
        season.days = 0
    elif dared == 1:
        season.gained += 1


def answer_day(season, numbers):
    looked = numbers[0]
    dared = numbers[1]
    if season.days == 0:
        return [NO_DAYS]
    if looked > 1 or dared > 1:
        return [NOT_ALLOWED]
    if looked > season.looks or dared > season.misdeeds:
        return [NONE_LEFT]
    play_day(season, looked, dared)
    return [0, season.gained]


def answer_gain(season, numbers):
    return [season.caught, season.gained]


def answer_left(season, numbers):
    return [season.days, season.looks, season.misdeeds, season.fine]


def answer_worth(season, numbers):
    return told_fraction(worth(season.days, season.looks, season.misdeeds, season.fine))


def answer_look(season, numbers):
    if season.days == 0:
        return [NO_DAYS]
    return told_fraction(look_chance(season.days, season.looks, season.fine))


def answer_dare(season, numbers):
    if season.days == 0:
        return [NO_DAYS]
    return told_fraction(dare_chance(season.days, season.looks, season.misdeeds, season.fine))


def answer_worthof(season, numbers):
    if not season_allowed(numbers[0], numbers[1], numbers[2]):
        return [NOT_ALLOWED]
    return told_fraction(worth(numbers[0], numbers[1], numbers[2], season.fine))


def answer_iffine(season, numbers):
    if not fine_allowed(numbers[0]):
        return [NOT_ALLOWED]
    return told_fraction(worth(season.days, season.looks, season.misdeeds, numbers[0]))


# The chance is of 100; left is how many looks or misdeeds there are to be made with it.
def chance_refusal(season, chances, left):
    if season.days == 0:
        return [NO_DAYS]
    if chances > MOST_CHANCES:
        return [NOT_ALLOWED]
    if chances > 0 and left == 0:
        return [NONE_LEFT]
    return []


def answer_iflook(season, numbers):
    refusal = chance_refusal(season, numbers[0], season.looks)
    if refusal != []:
        return refusal
    chance = (numbers[0], MOST_CHANCES)
    return told_fraction(worth_if_looked(season.days, season.looks, season.misdeeds, season.fine, chance))


def answer_ifdare(season, numbers):
    refusal = chance_refusal(season, numbers[0], season.misdeeds)
    if refusal != []:
        return refusal
    chance = (numbers[0], MOST_CHANCES)
    return told_fraction(worth_if_dared(season.days, season.looks, season.misdeeds, season.fine, chance))


def answer_caught(season, numbers):
    return told_fraction(caught_chance(season.days, season.looks, season.misdeeds, season.fine))


def answer_done(season, numbers):
    return told_fraction(done_mean(season.days, season.looks, season.misdeeds, season.fine))


# Every day is looked at as likely as every other, so as likely as the next.
def answer_looked(season, numbers):
    if numbers[0] >= season.days:
        return [NOT_ALLOWED]
    return told_fraction(look_chance(season.days, season.looks, season.fine))


def answer_spare(season, numbers):
    if numbers[0] > season.looks:
        return [NOT_ALLOWED]
    return told_fraction(spare_chance(season.days, season.looks, season.fine, numbers[0]))


def answer_looksfor(season, numbers):
    if not parts_allowed(numbers[0]):
        return [NOT_ALLOWED]
    return [looks_for(season.days, season.misdeeds, season.fine, (1, numbers[0]))]


def answer_finefor(season, numbers):
    if not parts_allowed(numbers[0]):
        return [NOT_ALLOWED]
    fine = fine_for(season.days, season.looks, season.misdeeds, MOST_FINE_ASKED, (1, numbers[0]))
    return [NO_FINE] if fine == 0 else [fine]


# By the call's number.
ANSWERERS = (
    answer_begin,
    answer_day,
    answer_gain,
    answer_left,
    answer_worth,
    answer_look,
    answer_dare,
    answer_worthof,
    answer_iffine,
    answer_iflook,
    answer_ifdare,
    answer_caught,
    answer_done,
    answer_looked,
    answer_spare,
    answer_looksfor,
    answer_finefor,
)


def answer_call(season, call, numbers):
    if call != BEGIN and not season.begun:
        return [NOT_BEGUN]
    return ANSWERERS[call](season, numbers)


def answers(calls):
    season = Season()
    told = []
    place = 0
    while place < len(calls):
        call = calls[place]
        behind = place + 1 + NUMBERS_OF_CALLS[call]
        answer = answer_call(season, call, calls[place + 1:behind])
        told.append(len(answer))
        told.extend(answer)
        place = behind
    return told
