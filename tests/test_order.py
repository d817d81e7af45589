"""order."""

import unittest
from itertools import permutations

from tests.helper import LARGEST, ask, call, last, three_machines_one_each, told, two_machines
from tests.second import brings


def best_order(chances, value):
    """Orders come as they are numbered, and of alike ones max answers the first."""
    return max(permutations(range(len(chances))), key=lambda order: value([chances[machine] for machine in order]))


class Order(unittest.TestCase):
    def check(self, chances, way):
        def value(ordered):
            return brings(tuple(ordered), way)

        order = best_order(chances, value)
        most = value([chances[machine] for machine in order])
        got = last(call("begin", *chances), call("order", *way))
        self.assertEqual(got, [len(chances), *order, *told(most)], (chances, way))

    def test_two_machines_are_as_good_both_ways(self):
        for chances in ((2, 7), (7, 2), (5, 5), (9, 1), (1, 9)):
            for room in range(1, 9):
                got = last(call("begin", *chances), call("order", room))
                self.assertEqual(got, [2, 0, 1, *told(two_machines(*chances, room))])

    def test_three_machines_one_place_each(self):
        for chances in ((2, 5, 9), (9, 5, 2), (5, 9, 2), (1, 1, 2), (2, 1, 1), (8, 8, 3), (9, 9, 9)):
            order = best_order(chances, lambda ordered: three_machines_one_each(*ordered))
            wanted = three_machines_one_each(*[chances[machine] for machine in order])
            self.assertEqual(last(call("begin", *chances), call("order", 1, 1)), [3, *order, *told(wanted)], chances)

    def test_an_order_tells_who_stands_at_each_place(self):
        # Best is 5, 9, 2: machine 1, then 2, then 0. Where each goes to would be 2, 0, 1.
        got = ask(call("begin", 2, 5, 9), call("order", 1, 3), call("begin", 5, 9, 2), call("of", 1, 3))
        self.assertEqual(got[1], [3, 1, 2, 0] + got[3][1:])
        other = last(call("begin", 9, 2, 5), call("of", 1, 3))
        self.assertNotEqual(other, got[3])

    def test_three_machines_by_another_way(self):
        for chances in ((2, 8, 9), (8, 2, 9), (8, 9, 2), (4, 4, 7), (5, 5, 5)):
            for way in ((1, 2), (2, 1), (2, 2), (1, 3)):
                self.check(chances, way)

    def test_four_machines_by_another_way(self):
        for way in ((1, 1, 1), (1, 1, 2), (1, 2, 1), (2, 1, 1)):
            self.check((4, 7, 3, 8), way)
        self.check((3, 3, 8, 8), (1, 1, 2))
        self.check((9, 1, 9, 1), (1, 2, 1))

    def test_all_alike_stand_as_they_are_numbered(self):
        for way in ((3,), (1, 4), (3, 3), (1, 1, 2), (2, 2, 2)):
            machines = len(way) + 1
            got = ask(call("begin", *[6] * machines), call("order", *way), call("of", *way))
            self.assertEqual(got[1], [machines, *range(machines), *got[2][1:]])

    def test_of_rooms_the_same_turned_the_first_of_both(self):
        # An order and that order turned are as good: the first has the lower number ahead.
        for chances in ((2, 5, 9), (9, 2, 5), (5, 9, 2)):
            got = last(call("begin", *chances), call("order", 2, 2))
            self.assertLess(got[1], got[3], chances)

    def test_any_way_whatever_room_is_for_all(self):
        got = ask(call("begin", 2, 5, 9), call("order", 8, 2), call("total", 8), call("order", 8, 2),
                  call("order", 1, 1))
        self.assertEqual(got[1], got[3])
        self.assertEqual(got[4], last(call("begin", 2, 5, 9), call("order", 1, 1)))

    def test_machines_stay_as_they_stand(self):
        got = ask(call("begin", 9, 2, 5), call("best"), call("order", 1, 2), call("state"), call("best"))
        self.assertEqual(got[3], [2, 9, 2, 5])
        self.assertEqual(got[4], got[1])

    def test_not_a_way(self):
        for machines in (2, 3, 4):
            for many in range(7):
                if many != machines - 1:
                    got = ask(call("begin", *[5] * machines), call("order", *[1] * many), call("state"))
                    self.assertEqual(got[1:], [[-22], [machines - 1] + [5] * machines])
        for way in ((0, 1), (1, 0), (9, 1), (1, 9), (LARGEST, 1), (3, 6), (5, 4), (8, 8)):
            self.assertEqual(last(call("begin", 5, 5, 5), call("order", *way)), [-22], way)
        for way in ((1, 1, 6), (2, 2, 3), (1, 3, 3), (0, 1, 1), (1, 1, LARGEST)):
            self.assertEqual(last(call("begin", 5, 5, 5, 5), call("order", *way)), [-22], way)

    def test_not_begun(self):
        self.assertEqual(ask(call("order", 1), call("order")), [[-11], [-11]])


if __name__ == "__main__":
    unittest.main()
