"""A line of machines with room for all: the object that calls are made on."""

from roombetween.brought import Brought
from roombetween.orders import in_order
from roombetween.ratio import difference, first_most, is_more
from roombetween.ways import is_way, ways_of

NONE_SUCH = -2
NONE = -6
NOT_BEGUN = -11
SO_ALREADY = -17
OUT_OF_RANGE = -22
TOO_MANY = -28
NOT_SO = -33

MOST_FOR_ALL = 8
MOST_TENTHS = 9
MOST_BELOW = 1000


def is_chance(tenths):
    return 1 <= tenths and tenths <= MOST_TENTHS


def are_chances(chances):
    if len(chances) < 2 or len(chances) > 4:
        return False
    return all([is_chance(tenths) for tenths in chances])


# Each call's method answers a list of numbers; of a refusal that is its number alone.
class Line:
    def __init__(self):
        self.chances = []
        self.room_for_all = 0
        self.brought = Brought()

    def has_begun(self):
        return len(self.chances) > 0

    def has_machine(self, machine):
        return machine < len(self.chances)

    def may_be_higher(self, machine):
        return self.chances[machine] < MOST_TENTHS

    def rooms(self):
        return len(self.chances) - 1

    def can_be_put(self, room):
        return room <= MOST_FOR_ALL and len(ways_of(self.rooms(), room)) > 0

    def ways_of_all_room(self):
        return ways_of(self.rooms(), self.room_for_all)

    def brings(self, way):
        return self.brought.brings(self.chances, way)

    def best_way(self):
        return self.brought.best_way(self.chances, self.room_for_all)

    def way_told(self, chances, way):
        return [len(way)] + list(way) + list(self.brought.brings(chances, way))

    def gained_by(self, machine):
        way = self.best_way()
        raised = list(self.chances)
        raised[machine] = raised[machine] + 1
        return difference(self.brought.brings(raised, way), self.brings(way))

    def begin(self, chances):
        if not are_chances(chances):
            return [OUT_OF_RANGE]
        self.chances = list(chances)
        self.room_for_all = self.rooms()
        return [0]

    def total(self, room):
        if not self.can_be_put(room):
            return [OUT_OF_RANGE]
        before = self.room_for_all
        self.room_for_all = room
        return [before]

    def chance(self, machine, tenths):
        if not self.has_machine(machine):
            return [NONE_SUCH]
        if not is_chance(tenths):
            return [OUT_OF_RANGE]
        before = self.chances[machine]
        self.chances[machine] = tenths
        return [before]

    def swap(self, machine, another):
        if not self.has_machine(machine) or not self.has_machine(another):
            return [NONE_SUCH]
        moved = self.chances[machine]
        self.chances[machine] = self.chances[another]
        self.chances[another] = moved
        return [len(self.chances)]

    def turn(self):
        self.chances = list(reversed(self.chances))
        return [len(self.chances)]

    def state(self):
        return [self.room_for_all] + list(self.chances)

    def best(self):
        return self.way_told(self.chances, self.best_way())

    def worst(self):
        return self.way_told(self.chances, self.brought.worst_way(self.chances, self.room_for_all))

    # The best of the line turned is looked for by itself: of ways as good, the first there may be
    # another than the first here turned.
    def turned(self):
        chances = list(reversed(self.chances))
        return self.way_told(chances, self.brought.best_way(chances, self.room_for_all))

    def ways(self):
        most = self.brings(self.best_way())
        ways = self.ways_of_all_room()
        return [len(ways), len([way for way in ways if self.brings(way) == most])]

    def of(self, way):
        if not is_way(way, self.rooms()):
            return [OUT_OF_RANGE]
        return [sum(way)] + list(self.brings(way))

    def place(self, way):
        if not is_way(way, self.rooms()) or sum(way) != self.room_for_all:
            return [OUT_OF_RANGE]
        own = self.brings(way)
        return [len([other for other in self.ways_of_all_room() if is_more(self.brings(other), own)])]

    def order(self, way):
        if not is_way(way, self.rooms()):
            return [OUT_OF_RANGE]
        order = self.brought.best_order(self.chances, way)
        brings = self.brought.brings(in_order(self.chances, order), way)
        return [len(order)] + list(order) + list(brings)

    def worth(self):
        room = self.room_for_all + 1
        if not self.can_be_put(room):
            return [TOO_MANY]
        most = self.brings(self.brought.best_way(self.chances, room))
        return [0] + list(difference(most, self.brings(self.best_way())))

    # Each room for all is tried: by four machines more room can bring fewer, so that what isn't
    # reached by the most may be reached by less.
    def need(self, above, below):
        if below < 1 or below > MOST_BELOW or above > below:
            return [OUT_OF_RANGE]
        for room in range(self.rooms(), MOST_FOR_ALL + 1):
            if self.can_be_put(room):
                way = self.brought.best_way(self.chances, room)
                if not is_more((above, below), self.brings(way)):
                    return [room] + list(way)
        return [NOT_SO]

    def bound(self):
        return [min(self.chances)]

    def gain(self, machine):
        if not self.has_machine(machine):
            return [NONE_SUCH]
        if not self.may_be_higher(machine):
            return [SO_ALREADY]
        return [0] + list(self.gained_by(machine))

    def neck(self):
        machines = [machine for machine in range(len(self.chances)) if self.may_be_higher(machine)]
        if len(machines) == 0:
            return [NONE]
        gained = [self.gained_by(machine) for machine in machines]
        most = first_most(gained)
        return [machines[most]] + list(gained[most])
