"""A line of machines with room for all: the object that calls are made on."""

from roombetween.longrun import pieces_an_hour
from roombetween.ratio import is_more
from roombetween.ways import is_way, ways_of

NONE_SUCH = -2
NOT_BEGUN = -11
OUT_OF_RANGE = -22

MOST_FOR_ALL = 8


def is_chance(tenths):
    return 1 <= tenths and tenths <= 9


def are_chances(chances):
    if len(chances) < 2 or len(chances) > 4:
        return False
    return all([is_chance(tenths) for tenths in chances])


# Each call's method answers a list of numbers; of a refusal that is its number alone.
class Line:
    def __init__(self):
        self.chances = []
        self.room_for_all = 0
        # By chances and way, so that it stays true whatever changes.
        self.brought = {}

    def has_begun(self):
        return len(self.chances) > 0

    def has_machine(self, machine):
        return machine < len(self.chances)

    def rooms(self):
        return len(self.chances) - 1

    def ways_of_all_room(self):
        return ways_of(self.rooms(), self.room_for_all)

    def brings(self, way):
        asked = (tuple(self.chances), tuple(way))
        if asked not in self.brought:
            self.brought[asked] = pieces_an_hour(self.chances, way)
        return self.brought[asked]

    def best_way(self):
        ways = self.ways_of_all_room()
        best = ways[0]
        for way in ways:
            if is_more(self.brings(way), self.brings(best)):
                best = way
        return best

    def worst_way(self):
        ways = self.ways_of_all_room()
        worst = ways[0]
        for way in ways:
            if is_more(self.brings(worst), self.brings(way)):
                worst = way
        return worst

    def way_told(self, way):
        return [self.rooms()] + list(way) + list(self.brings(way))

    def begin(self, chances):
        if not are_chances(chances):
            return [OUT_OF_RANGE]
        self.chances = list(chances)
        self.room_for_all = self.rooms()
        return [0]

    def total(self, room):
        if room < self.rooms() or room > MOST_FOR_ALL:
            return [OUT_OF_RANGE]
        if len(ways_of(self.rooms(), room)) == 0:
            return [OUT_OF_RANGE]
        before = self.room_for_all
        self.room_for_all = room
        return [before]

    def chance(self, machine, tenths):
        if not self.has_machine(machine):
            return [NONE_SUCH]
        if not is_chance(tenths):
            return [OUT_OF_RANGE]
        before = self.chances[machine]
        self.chances[machine] = tenths
        return [before]

    def swap(self, machine, another):
        if not self.has_machine(machine) or not self.has_machine(another):
            return [NONE_SUCH]
        moved = self.chances[machine]
        self.chances[machine] = self.chances[another]
        self.chances[another] = moved
        return [len(self.chances)]

    def turn(self):
        self.chances = list(reversed(self.chances))
        return [len(self.chances)]

    def best(self):
        return self.way_told(self.best_way())

    def worst(self):
        return self.way_told(self.worst_way())

    def ways(self):
        most = self.brings(self.best_way())
        ways = self.ways_of_all_room()
        return [len(ways), len([way for way in ways if self.brings(way) == most])]

    def of(self, way):
        if not is_way(way, self.rooms()):
            return [OUT_OF_RANGE]
        return [sum(way)] + list(self.brings(way))
