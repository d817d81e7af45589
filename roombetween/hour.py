"""One hour of a line: who may work in it, by what chance, and how rooms are filled behind it.

A weight is a chance in parts of 10 to the power of machines, so that it is whole. Of each machine
1 tells that it works, 0 that it doesn't.
"""


# found holds (weight, working) of the machines behind this one, as an hour is told from the last on.
def with_machine_ahead(found, chance, has_piece, has_place):
    grown = []
    for weight, working in found:
        if has_piece and (has_place or working[0] == 1):
            grown.append((weight * chance, (1,) + working))
            grown.append((weight * (10 - chance), (0,) + working))
        else:
            # Up or not, it stands still: both chances together are ten tenths.
            grown.append((weight * 10, (0,) + working))
    return grown


def hours(filling, way, chances):
    last = len(way)
    found = [(1, ())]
    for machine in range(last, -1, -1):
        has_piece = machine == 0 or filling[machine - 1] > 0
        has_place = machine == last or filling[machine] < way[machine]
        found = with_machine_ahead(found, chances[machine], has_piece, has_place)
    return found


def filled_after(filling, working):
    return tuple([held + working[room] - working[room + 1] for room, held in enumerate(filling)])
