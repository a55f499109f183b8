"""What a season is worth, the best chances in it and what comes of them, as fractions (above, below), lowest."""

NOTHING = (0, 1)
CERTAIN = (1, 1)


def greatest_divisor(first, second):
    while second > 0:
        rest = first % second
        first = second
        second = rest
    return first


# below is 1 or more.
def lowest(above, below):
    shared = greatest_divisor(abs(above), below)
    return (above // shared, below // shared)


def less(first, second):
    return first[0] * second[1] < second[0] * first[1]


def one_more(fraction):
    return (fraction[0] + fraction[1], fraction[1])


# What comes in the mean, if first comes with that chance and second else.
def mixed(chance, first, second):
    by_first = chance[0] * first[0] * second[1]
    by_second = (chance[1] - chance[0]) * second[0] * first[1]
    return lowest(by_first + by_second, chance[1] * first[1] * second[1])


# How many sets of so many picked days there are: 0, by a factor of 0, where more are picked than there are.
def ways(days, picked):
    many = 1
    for step in range(picked):
        many = many * (days - step) // (step + 1)
    return many


# How heavy all sets of at most so many days are together. A set is heavier by the fine for each day that it has
# fewer than there are looks: so what the smaller sets weigh is multiplied by the fine once more at each size.
def weight(days, looks, fine):
    total = 0
    for picked in range(looks + 1):
        total = total * fine + ways(days, picked)
    return total


# What a season is worth, multiplied by weight. At the inspector's best chance to dare is as good as to wait, so it
# is what one gains who dares while there are days and misdeeds left:
#   weight(n, m) * worth(n, m, k) = weight(n - 1, m) * (1 + worth(n - 1, m, k - 1)) - fine * weight(n - 1, m - 1)
# and weight(n - 1, m) - fine * weight(n - 1, m - 1) is ways(n - 1, m), so the fine isn't needed here.
def weighed_worth(days, looks, misdeeds):
    total = 0
    for day in range(min(days, misdeeds)):
        total += ways(days - 1 - day, looks)
    return total


def worth(days, looks, misdeeds, fine):
    return lowest(weighed_worth(days, looks, misdeeds), weight(days, looks, fine))


# There is a day to come. The sets that have it are those of one look fewer on the days behind it.
def look_chance(days, looks, fine):
    if looks == 0:
        return NOTHING
    return lowest(weight(days - 1, looks - 1, fine), weight(days, looks, fine))


# There is a day to come. To look is worth -fine if the other dares, else a; not to look is worth 1 + c if the other
# dares, else b. Both are alike where daring stands to waiting as a - b stands to fine + 1 + c; here all of these are
# multiplied by both weights behind the day, to be whole.
def dare_chance(days, looks, misdeeds, fine):
    if misdeeds == 0:
        return NOTHING
    if looks == 0:
        return CERTAIN
    looked_weight = weight(days - 1, looks - 1, fine)
    passed_weight = weight(days - 1, looks, fine)
    looked_waited = weighed_worth(days - 1, looks - 1, misdeeds) * passed_weight
    passed_waited = weighed_worth(days - 1, looks, misdeeds) * looked_weight
    passed_dared = weighed_worth(days - 1, looks, misdeeds - 1) * looked_weight
    daring = looked_waited - passed_waited
    waiting = (fine + 1) * looked_weight * passed_weight + passed_dared
    return lowest(daring, daring + waiting)


# There is a day to come. What the other gains at most, who may dare or wait against that chance of a look.
def worth_if_looked(days, looks, misdeeds, fine, chance):
    if misdeeds == 0:
        return NOTHING
    # Not to look is all that the inspector can do without looks, so it's best.
    if looks == 0:
        return worth(days, looks, misdeeds, fine)
    dared = mixed(chance, (-fine, 1), one_more(worth(days - 1, looks, misdeeds - 1, fine)))
    waited = mixed(chance, worth(days - 1, looks - 1, misdeeds, fine), worth(days - 1, looks, misdeeds, fine))
    return waited if less(dared, waited) else dared


# There is a day to come. What the other gains at the least, where the inspector may look or not against that chance
# of a misdeed.
def worth_if_dared(days, looks, misdeeds, fine, chance):
    if misdeeds == 0:
        return NOTHING
    dared = one_more(worth(days - 1, looks, misdeeds - 1, fine))
    passed = mixed(chance, dared, worth(days - 1, looks, misdeeds, fine))
    if looks == 0:
        return passed
    looked = mixed(chance, (-fine, 1), worth(days - 1, looks - 1, misdeeds, fine))
    return looked if less(looked, passed) else passed


# known holds what is reckoned already, by what is left: many plays lead to the same.
def caught_from(known, days, looks, misdeeds, fine):
    if days == 0 or looks == 0 or misdeeds == 0:
        return NOTHING
    left = (days, looks, misdeeds)
    if left not in known:
        look = look_chance(days, looks, fine)
        dared = mixed(look, CERTAIN, caught_from(known, days - 1, looks, misdeeds - 1, fine))
        looked_waited = caught_from(known, days - 1, looks - 1, misdeeds, fine)
        passed_waited = caught_from(known, days - 1, looks, misdeeds, fine)
        waited = mixed(look, looked_waited, passed_waited)
        known[left] = mixed(dare_chance(days, looks, misdeeds, fine), dared, waited)
    return known[left]


def caught_chance(days, looks, misdeeds, fine):
    return caught_from({}, days, looks, misdeeds, fine)


# What it's worth is what's done unseen, less the fine as often as the other is caught.
def done_mean(days, looks, misdeeds, fine):
    gained = worth(days, looks, misdeeds, fine)
    caught = caught_chance(days, looks, misdeeds, fine)
    return lowest(gained[0] * caught[1] + fine * caught[0] * gained[1], gained[1] * caught[1])


# To look day by day with look_chance is to pick one of the sets, by how heavy each is. So there are so many looks
# spare as often as a set is picked that has so many days fewer than there are looks.
def spare_chance(days, looks, fine, spare):
    heavy = ways(days, looks - spare)
    for look in range(spare):
        heavy *= fine
    return lowest(heavy, weight(days, looks, fine))


# One look for each day leaves nothing to gain, so as many looks as days are enough.
def looks_for(days, misdeeds, fine, bound):
    looks = 0
    while looks < days and not less(worth(days, looks, misdeeds, fine), bound):
        looks += 1
    return looks


# 0 if none of these fines does.
def fine_for(days, looks, misdeeds, most_fine, bound):
    for fine in range(1, most_fine + 1):
        if less(worth(days, looks, misdeeds, fine), bound):
            return fine
    return 0
