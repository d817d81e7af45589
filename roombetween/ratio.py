"""Fractions: pairs (above, below) with nothing in common, below 1 or more."""


def common(one, other):
    while other != 0:
        rest = one % other
        one = other
        other = rest
    return one


def lowest(above, below):
    shared = common(abs(above), below)
    return (above // shared, below // shared)


def is_more(one, other):
    return one[0] * other[1] > other[0] * one[1]
