"""Fractions: pairs (above, below) with nothing in common, below 1 or more."""


def common(one, other):
    while other != 0:
        rest = one % other
        one = other
        other = rest
    return one


def lowest(above, below):
    shared = common(abs(above), below)
    return (above // shared, below // shared)


def is_more(one, other):
    return one[0] * other[1] > other[0] * one[1]


def difference(one, other):
    return lowest(one[0] * other[1] - other[0] * one[1], one[1] * other[1])


# Both tell at which place it stands; of alike ones it's the first, as only what differs moves it on.
def first_most(fractions):
    most = 0
    for place, fraction in enumerate(fractions):
        if is_more(fraction, fractions[most]):
            most = place
    return most


def first_fewest(fractions):
    fewest = 0
    for place, fraction in enumerate(fractions):
        if is_more(fractions[fewest], fraction):
            fewest = place
    return fewest
