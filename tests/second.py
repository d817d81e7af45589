"""A second line, told by the document's words alone, with what it brings reckoned by helper's other way."""

from fractions import Fraction
from functools import lru_cache
from itertools import permutations

from tests.helper import reckoned, told, ways_by_trial


@lru_cache(maxsize=None)
def brings(chances, way):
    return reckoned(chances, way)


@lru_cache(maxsize=None)
def ways_of(rooms, total):
    return ways_by_trial(rooms, total)


def is_way(way, rooms):
    return len(way) == rooms and max(way) <= 8 and tuple(way) in ways_of(rooms, sum(way))


def first_most(choices, value):
    """Of alike ones max answers the first."""
    return max(choices, key=value)


def best(chances, total):
    return first_most(ways_of(len(chances) - 1, total), lambda way: brings(chances, way))


def output(chances, total):
    return brings(chances, best(chances, total))


def raised(chances, machine):
    return chances[:machine] + (chances[machine] + 1,) + chances[machine + 1:]


def gained(chances, total, machine):
    way = best(chances, total)
    return brings(raised(chances, machine), way) - brings(chances, way)


class SecondLine:
    def __init__(self):
        self.chances = ()
        self.total = 0

    def answer(self, name, *given):
        if name != "begin" and not self.chances:
            return [-11]
        return getattr(self, "call_" + name)(*given)

    def rooms(self):
        return len(self.chances) - 1

    def machines_there(self, *machines):
        return all(machine <= self.rooms() for machine in machines)

    def told_way(self, chances, way):
        return [len(way), *way, *told(brings(chances, way))]

    def call_begin(self, *chances):
        if len(chances) not in (2, 3, 4) or not all(tenths in range(1, 10) for tenths in chances):
            return [-22]
        self.chances = chances
        self.total = len(chances) - 1
        return [0]

    def call_total(self, n):
        if n < self.rooms() or n > 8 or not ways_of(self.rooms(), n):
            return [-22]
        before, self.total = self.total, n
        return [before]

    def call_chance(self, machine, tenths):
        if not self.machines_there(machine):
            return [-2]
        if tenths not in range(1, 10):
            return [-22]
        before = self.chances[machine]
        self.chances = self.chances[:machine] + (tenths,) + self.chances[machine + 1:]
        return [before]

    def call_swap(self, one, other):
        if not self.machines_there(one, other):
            return [-2]
        moved = list(self.chances)
        moved[one], moved[other] = moved[other], moved[one]
        self.chances = tuple(moved)
        return [len(moved)]

    def call_turn(self):
        self.chances = self.chances[::-1]
        return [len(self.chances)]

    def call_best(self):
        return self.told_way(self.chances, best(self.chances, self.total))

    def call_worst(self):
        ways = ways_of(self.rooms(), self.total)
        return self.told_way(self.chances, min(ways, key=lambda way: brings(self.chances, way)))

    def call_ways(self):
        brought = [brings(self.chances, way) for way in ways_of(self.rooms(), self.total)]
        return [len(brought), brought.count(max(brought))]

    def call_of(self, *way):
        return [sum(way), *told(brings(self.chances, way))] if is_way(way, self.rooms()) else [-22]

    def call_place(self, *way):
        ways = ways_of(self.rooms(), self.total)
        if way not in ways:
            return [-22]
        return [sum(brings(self.chances, other) > brings(self.chances, way) for other in ways)]

    def call_worth(self):
        if self.total == 8 or not ways_of(self.rooms(), self.total + 1):
            return [-28]
        return [0, *told(output(self.chances, self.total + 1) - output(self.chances, self.total))]

    def call_need(self, x, y):
        if y not in range(1, 1001) or x > y:
            return [-22]
        for total in range(9):
            if ways_of(self.rooms(), total) and output(self.chances, total) >= Fraction(x, y):
                return [total, *best(self.chances, total)]
        return [-33]

    def call_order(self, *way):
        if not is_way(way, self.rooms()):
            return [-22]

        def value(order):
            return brings(tuple(self.chances[machine] for machine in order), way)

        order = first_most(list(permutations(range(len(self.chances)))), value)
        return [len(order), *order, *told(value(order))]

    def call_turned(self):
        turned = self.chances[::-1]
        return self.told_way(turned, best(turned, self.total))

    def call_bound(self):
        return [min(self.chances)]

    def call_gain(self, machine):
        if not self.machines_there(machine):
            return [-2]
        if self.chances[machine] == 9:
            return [-17]
        return [0, *told(gained(self.chances, self.total, machine))]

    def call_neck(self):
        machines = [machine for machine, tenths in enumerate(self.chances) if tenths < 9]
        if not machines:
            return [-6]
        machine = first_most(machines, lambda one: gained(self.chances, self.total, one))
        return [machine, *told(gained(self.chances, self.total, machine))]

    def call_state(self):
        return [self.total, *self.chances]
