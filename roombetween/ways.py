"""Ways to put room: of each room how much it holds."""

MOST_IN_A_ROOM = 8
MOST_FILLINGS = 27


def count_fillings(way):
    many = 1
    for held in way:
        many = many * (held + 1)
    return many


def is_way(way, rooms):
    if len(way) != rooms:
        return False
    for held in way:
        if held < 1 or held > MOST_IN_A_ROOM:
            return False
    return count_fillings(way) <= MOST_FILLINGS


def one_room_more(ways):
    grown = []
    for way in ways:
        for held in range(1, MOST_IN_A_ROOM + 1):
            longer = way + (held,)
            # Rooms to come only multiply fillings: what has too many already is no way's beginning.
            if count_fillings(longer) <= MOST_FILLINGS:
                grown.append(longer)
    return grown


# Built room by room from 1 upwards, ways stand in order by themselves.
def ways_of(rooms, room_for_all):
    ways = [()]
    for room in range(rooms):
        ways = one_room_more(ways)
    return [way for way in ways if sum(way) == room_for_all]
