"""What a season is worth and the best chances in it, as fractions (above, below) with nothing in common."""


def greatest_divisor(first, second):
    while second > 0:
        rest = first % second
        first = second
        second = rest
    return first


# below is 1 or more.
def lowest(above, below):
    shared = greatest_divisor(abs(above), below)
    return (above // shared, below // shared)


# How many sets of so many picked days there are: 0, by a factor of 0, where more are picked than there are.
def ways(days, picked):
    many = 1
    for step in range(picked):
        many = many * (days - step) // (step + 1)
    return many


# How heavy all sets of at most so many days are together. A set is heavier by the fine for each day that it has
# fewer than there are looks: so what the smaller sets weigh is multiplied by the fine once more at each size.
def weight(days, looks, fine):
    total = 0
    for picked in range(looks + 1):
        total = total * fine + ways(days, picked)
    return total


# What a season is worth, multiplied by weight. At the inspector's best chance to dare is as good as to wait, so it
# is what one gains who dares while there are days and misdeeds left:
#   weight(n, m) * worth(n, m, k) = weight(n - 1, m) * (1 + worth(n - 1, m, k - 1)) - fine * weight(n - 1, m - 1)
# and weight(n - 1, m) - fine * weight(n - 1, m - 1) is ways(n - 1, m), so the fine isn't needed here.
def weighed_worth(days, looks, misdeeds):
    total = 0
    for day in range(min(days, misdeeds)):
        total += ways(days - 1 - day, looks)
    return total


def worth(days, looks, misdeeds, fine):
    return lowest(weighed_worth(days, looks, misdeeds), weight(days, looks, fine))


# There is a day to come. The sets that have it are those of one look fewer on the days behind it.
def look_chance(days, looks, fine):
    if looks == 0:
        return (0, 1)
    return lowest(weight(days - 1, looks - 1, fine), weight(days, looks, fine))


# There is a day to come. To look is worth -fine if the other dares, else a; not to look is worth 1 + c if the other
# dares, else b. Both are alike where daring stands to waiting as a - b stands to fine + 1 + c; here all of these are
# multiplied by both weights behind the day, to be whole.
def dare_chance(days, looks, misdeeds, fine):
    if misdeeds == 0:
        return (0, 1)
    if looks == 0:
        return (1, 1)
    looked_weight = weight(days - 1, looks - 1, fine)
    passed_weight = weight(days - 1, looks, fine)
    looked_waited = weighed_worth(days - 1, looks - 1, misdeeds) * passed_weight
    passed_waited = weighed_worth(days - 1, looks, misdeeds) * looked_weight
    passed_dared = weighed_worth(days - 1, looks, misdeeds - 1) * looked_weight
    daring = looked_waited - passed_waited
    waiting = (fine + 1) * looked_weight * passed_weight + passed_dared
    return lowest(daring, daring + waiting)
