"""The long run: how many pieces an hour a line brings, exactly.

How often each filling is there is told by equations: it is left as often as it is come to, and all
are 1 together. They are solved in whole numbers alone.
"""

from roombetween.hour import filled_after, hours
from roombetween.ratio import lowest


def all_fillings(way):
    fillings = [()]
    for most in way:
        grown = []
        for filling in fillings:
            for held in range(most + 1):
                grown.append(filling + (held,))
        fillings = grown
    return fillings


# An hour changes a room by one at most. By what the largest room holds, an hour leads to fillings
# close by, and solving can pass over the zeros of those far apart.
def ordered_fillings(way):
    largest = way.index(max(way))
    return sorted(all_fillings(way), key=lambda filling: filling[largest])


# A row for each filling but the last, whose balance follows from the others'; then one of how often
# the last machine works, and one of all hours: their shares of the long run are what's looked for.
def equations(chances, way):
    fillings = ordered_fillings(way)
    places = dict([(filling, place) for place, filling in enumerate(fillings)])
    balances = [[0] * len(fillings) for filling in fillings]
    brought = [0] * len(fillings)
    together = [0] * len(fillings)
    for place, filling in enumerate(fillings):
        for weight, working in hours(filling, way, chances):
            reached = places[filled_after(filling, working)]
            balances[place][place] += weight
            balances[reached][place] -= weight
            brought[place] += weight * working[-1]
            together[place] += weight
    return balances[:-1] + [brought, together]


def at_measure(numbers, scale, measure):
    return [number * measure // scale for number in numbers]


# Numbers stay whole and small, as each division by scale goes up with no rest (Bareiss). A row that
# has a zero there needs no work: it keeps the scale it had, and is brought to measure when it's used.
def without_first(numbers, scale, taking):
    share = numbers[0]
    if share == 0:
        return (numbers[1:], scale)
    pivot = taking[0]
    left = [(pivot * own - share * other) // scale for own, other in zip(numbers[1:], taking[1:])]
    return (left, pivot)


# Each row takes the next column out of all rows behind it, till the last two have one number each.
# A row's first number isn't 0 then: each filling comes, in time, to the last one, which takes no column.
def last_two_left(rows):
    scaled = [(numbers, 1) for numbers in rows]
    measure = 1
    while len(scaled) > 2:
        taking = at_measure(scaled[0][0], scaled[0][1], measure)
        scaled = [without_first(numbers, scale, taking) for numbers, scale in scaled[1:]]
        measure = taking[0]
    return [at_measure(numbers, scale, measure)[0] for numbers, scale in scaled]


def pieces_an_hour(chances, way):
    left = last_two_left(equations(chances, way))
    return lowest(left[0], left[1])
