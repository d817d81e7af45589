"""Calls by name, answers one by one, and what a line brings reckoned in another way than the program's."""

from fractions import Fraction
from itertools import product

from roombetween.room import answers

LARGEST = 4294967295

NAMES = (
    "begin", "total", "chance", "swap", "turn", "best", "worst", "ways", "of",
    "place", "worth", "need", "order", "turned", "bound", "gain", "neck", "state",
)
WITH_A_ROW = ("begin", "of", "place", "order")


def call(name, *given):
    """One call as it is handed in."""
    row = [len(given)] if name in WITH_A_ROW else []
    return [NAMES.index(name)] + row + list(given)


def joined(calls):
    return [number for one in calls for number in one]


def split_answers(told):
    found = []
    at = 0
    while at < len(told):
        found.append(told[at + 1:at + 1 + told[at]])
        at += 1 + told[at]
    return found


def ask(*calls):
    """Each call's answer, of calls on one new object."""
    found = split_answers(answers(joined(calls)))
    assert len(found) == len(calls), (calls, found)
    return found


def last(*calls):
    return ask(*calls)[-1]


def ways_by_trial(rooms, total):
    """All ways of so much room, in order, out of all that could be put down."""
    found = []
    for way in product(range(1, 9), repeat=rooms):
        fillings = 1
        for held in way:
            fillings *= held + 1
        if sum(way) == total and fillings <= 27:
            found.append(way)
    return found


def works(machine, filling, way, up):
    if not up[machine]:
        return False
    if machine > 0 and filling[machine - 1] == 0:
        return False
    if machine == len(way) or filling[machine] < way[machine]:
        return True
    return works(machine + 1, filling, way, up)


def after_hour(filling, way, up):
    rooms = list(filling)
    for machine in range(len(up)):
        if works(machine, filling, way, up):
            if machine > 0:
                rooms[machine - 1] -= 1
            if machine < len(way):
                rooms[machine] += 1
    return tuple(rooms)


def chance_of(up, chances):
    found = Fraction(1)
    for is_up, tenths in zip(up, chances):
        found *= Fraction(tenths, 10) if is_up else Fraction(10 - tenths, 10)
    return found


def one_hour(filling, chances, way):
    """(chance, filling behind it, whether the first, whether the last machine works) by who is up."""
    for up in product((False, True), repeat=len(chances)):
        first = works(0, filling, way, up)
        final = works(len(way), filling, way, up)
        yield chance_of(up, chances), after_hour(filling, way, up), first, final


def solve(rows):
    """The unknowns of equations whose last number stands alone."""
    rows = [list(row) for row in rows]
    for at in range(len(rows)):
        with_number = next(k for k in range(at, len(rows)) if rows[k][at] != 0)
        rows[at], rows[with_number] = rows[with_number], rows[at]
        rows[at] = [number / rows[at][at] for number in rows[at]]
        for k in range(len(rows)):
            if k != at and rows[k][at] != 0:
                share = rows[k][at]
                rows[k] = [own - share * other for own, other in zip(rows[k], rows[at])]
    return [row[-1] for row in rows]


def reckoned(chances, way):
    """What a line brings, by how much each filling is ahead of the empty line.

    No share of the long run is reckoned here: for each filling, what an hour brings of the line and
    what it is ahead then must be what it is ahead now. Counted is what the first machine takes in,
    as in the long run just that comes out.
    """
    fillings = list(product(*[range(held + 1) for held in way]))
    at = {filling: k for k, filling in enumerate(fillings)}
    rows = []
    for filling in fillings:
        row = [Fraction(0)] * (len(fillings) + 1)
        row[at[filling]] += 1
        for chance, reached, first, final in one_hour(filling, chances, way):
            row[at[reached]] -= chance
            row[-1] += chance * first
        # The empty line is ahead of itself by nothing: its column is free for what the line brings.
        row[0] = Fraction(1)
        rows.append(row)
    return solve(rows)[0]


def hour_by_hour(chances, way, hours):
    """How likely the last machine works in the hour behind so many, from the empty line on."""
    fillings = list(product(*[range(held + 1) for held in way]))
    steps = {filling: [(float(chance), reached, final) for chance, reached, first, final
                       in one_hour(filling, chances, way)] for filling in fillings}
    share = {filling: 0.0 for filling in fillings}
    share[fillings[0]] = 1.0
    for hour in range(hours):
        later = {filling: 0.0 for filling in fillings}
        for filling in fillings:
            for chance, reached, final in steps[filling]:
                later[reached] += share[filling] * chance
        share = later
    return sum(share[filling] * chance for filling in fillings for chance, reached, final in steps[filling] if final)


def two_machines(first, second, room):
    """What two machines bring: by hand, from one filling to the next (see test_brings)."""
    p, q = Fraction(first, 10), Fraction(second, 10)
    shares = [Fraction(1), p / (q * (1 - p))]
    while len(shares) <= room:
        shares.append(shares[-1] * (p * (1 - q)) / (q * (1 - p)))
    return q * sum(shares[1:]) / sum(shares)


def three_machines_one_each(first, second, third):
    """What three machines with a place each between them bring: by hand (see test_brings)."""
    a, b, c = Fraction(first, 10), Fraction(second, 10), Fraction(third, 10)
    none = c * (1 - a) / a
    before = (a + c - a * c - a * b) / (b * (1 - a))
    behind = 1
    both = a / (c * (1 - a))
    return c * (behind + both) / (none + before + behind + both)


def told(fraction):
    return [fraction.numerator, fraction.denominator]
