"""What a line brings, asked by of."""

import unittest
from fractions import Fraction
from math import gcd

from tests.helper import (
    LARGEST, ask, call, hour_by_hour, last, reckoned, three_machines_one_each, told, two_machines,
)


class OfByHand(unittest.TestCase):
    def test_two_machines_one_place(self):
        # Of 1/2 each: the empty room is filled by 1/2, the full one emptied by 1/4 (last up, first not).
        # So it is full 2/3 of hours, and 1/2 of these bring a piece.
        self.assertEqual(last(call("begin", 5, 5), call("of", 1)), [1, 1, 3])

    def test_two_machines_two_places(self):
        # Shares as 1, 2, 2: one of five is empty, so 4/5 of 1/2.
        self.assertEqual(last(call("begin", 5, 5), call("of", 2)), [2, 2, 5])

    def test_two_machines_all_chances_all_rooms(self):
        # Up from 0 by p, up from between by p(1-q), down by q(1-p), from full as well.
        for first in range(1, 10):
            for second in range(1, 10):
                got = ask(call("begin", first, second), *[call("of", room) for room in range(1, 9)])
                wanted = [[0]] + [[room] + told(two_machines(first, second, room)) for room in range(1, 9)]
                self.assertEqual(got, wanted, (first, second))

    def test_three_alike_one_place_each(self):
        # Shares as 1, 4, 2, 4 of none, before, behind, both: 6 of 11, of these 1/2.
        self.assertEqual(last(call("begin", 5, 5, 5), call("of", 1, 1)), [2, 3, 11])

    def test_three_machines_one_place_each_all_chances(self):
        for first in range(1, 10):
            for second in range(1, 10):
                for third in range(1, 10):
                    got = last(call("begin", first, second, third), call("of", 1, 1))
                    wanted = [2] + told(three_machines_one_each(first, second, third))
                    self.assertEqual(got, wanted, (first, second, third))


class OfByAnotherWay(unittest.TestCase):
    def check(self, chances, way):
        got = last(call("begin", *chances), call("of", *way))
        self.assertEqual(got, [sum(way)] + told(reckoned(chances, way)), (chances, way))

    def test_three_machines(self):
        for way in ((1, 2), (2, 1), (1, 7), (7, 1), (4, 4), (3, 5)):
            self.check((3, 7, 6), way)

    def test_three_machines_worst_first_between_last(self):
        for chances in ((2, 8, 9), (8, 2, 9), (8, 9, 2), (1, 9, 1), (9, 9, 9), (1, 1, 1)):
            self.check(chances, (2, 3))

    def test_more_than_eight_together_is_still_a_way(self):
        # 9 times 3 fillings are 27.
        self.check((6, 5, 7), (8, 2))
        self.check((6, 5, 7), (2, 8))

    def test_four_machines(self):
        for way in ((1, 1, 1), (1, 1, 2), (1, 2, 1), (2, 1, 1), (1, 3, 1), (1, 2, 2)):
            self.check((4, 7, 3, 8), way)

    def test_four_machines_most_fillings(self):
        for way in ((2, 2, 2), (1, 1, 5), (1, 5, 1), (5, 1, 1), (1, 2, 3), (3, 2, 1)):
            self.check((6, 4, 9, 5), way)

    def test_four_machines_edges_of_chances(self):
        for chances in ((1, 9, 9, 9), (9, 1, 9, 9), (9, 9, 1, 9), (9, 9, 9, 1), (9, 9, 9, 9), (1, 1, 1, 1)):
            self.check(chances, (1, 2, 1))

    def test_hour_by_hour_it_is_come_to(self):
        for chances, way in (((5, 6), (3,)), ((6, 5, 7), (2, 2)), ((7, 6, 5, 8), (1, 2, 1)), ((5, 7, 6, 6), (2, 2, 2))):
            got = last(call("begin", *chances), call("of", *way))
            self.assertAlmostEqual(got[1] / got[2], hour_by_hour(chances, way, 600), places=10)


class OfHolds(unittest.TestCase):
    def test_fraction_has_nothing_in_common_and_is_no_more_than_the_worst_machine(self):
        for chances, way in (((2, 4), (3,)), ((5, 5, 5), (2, 2)), ((8, 2, 6), (1, 3)), ((5, 5, 5, 5), (2, 2, 2))):
            got = last(call("begin", *chances), call("of", *way))
            self.assertEqual(len(got), 3)
            self.assertEqual(gcd(got[1], got[2]), 1)
            self.assertGreaterEqual(got[2], 1)
            self.assertLess(Fraction(got[1], got[2]), Fraction(min(chances), 10))

    def test_any_way_whatever_room_is_for_all(self):
        got = ask(call("begin", 5, 5), call("of", 8), call("total", 8), call("of", 1))
        self.assertEqual(got, [[0], [8] + told(two_machines(5, 5, 8)), [1], [1, 1, 3]])

    def test_of_follows_changes(self):
        got = ask(
            call("begin", 5, 5), call("of", 1), call("chance", 0, 2), call("of", 1),
            call("begin", 5, 5, 5), call("of", 1, 1), call("chance", 2, 9), call("of", 1, 1),
        )
        self.assertEqual(got[1], [1, 1, 3])
        self.assertEqual(got[3], [1] + told(two_machines(2, 5, 1)))
        self.assertEqual(got[5], [2, 3, 11])
        self.assertEqual(got[7], [2] + told(three_machines_one_each(5, 5, 9)))

    def test_of_changes_nothing(self):
        got = ask(call("begin", 5, 5, 5), call("of", 3, 3), call("of", 1, 1), call("total", 3), call("of", 1, 1))
        self.assertEqual(got[2:], [[2, 3, 11], [2], [2, 3, 11]])


class OfRefuses(unittest.TestCase):
    def refused(self, chances, way):
        got = ask(call("begin", *chances), call("of", *way), call("total", len(chances) - 1))
        self.assertEqual(got, [[0], [-22], [len(chances) - 1]], (chances, way))

    def test_not_one_for_each_room(self):
        for many in range(7):
            for machines in (2, 3, 4):
                if many != machines - 1:
                    self.refused([5] * machines, [1] * many)

    def test_one_for_each_room(self):
        for machines in (2, 3, 4):
            got = last(call("begin", *[5] * machines), call("of", *[1] * (machines - 1)))
            self.assertEqual(len(got), 3)
            self.assertEqual(got[0], machines - 1)

    def test_a_room_holds_1_to_8(self):
        for held in (0, 9, 10, LARGEST):
            self.refused((5, 5), (held,))
            self.refused((5, 5, 5), (held, 1))
            self.refused((5, 5, 5), (1, held))
            self.refused((5, 5, 5, 5), (1, held, 1))

    def test_too_many_fillings(self):
        # 4 times 7, 9 times 4, 6 times 5: 28, 36, 30.
        for way in ((3, 6), (6, 3), (8, 3), (5, 4), (8, 8)):
            self.refused((5, 5, 5), way)
        # 28, 28, 36, 32.
        for way in ((1, 1, 6), (6, 1, 1), (2, 2, 3), (1, 3, 3), (8, 8, 8)):
            self.refused((5, 5, 5, 5), way)

    def test_as_many_fillings_as_may_be(self):
        for chances, way in (((5, 5, 5), (8, 2)), ((5, 5, 5, 5), (2, 2, 2))):
            self.assertEqual(last(call("begin", *chances), call("of", *way))[0], sum(way))


if __name__ == "__main__":
    unittest.main()
