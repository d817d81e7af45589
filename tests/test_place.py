"""place and turned."""

import unittest

from tests.helper import LARGEST, ask, call, last, reckoned, three_machines_one_each, told, two_machines, ways_by_trial
from tests.second import best, brings


class Place(unittest.TestCase):
    def check(self, chances, total):
        ways = ways_by_trial(len(chances) - 1, total)
        brought = [brings(chances, way) for way in ways]
        got = ask(call("begin", *chances), call("total", total), *[call("place", *way) for way in ways])
        wanted = [[len([one for one in brought if one > own])] for own in brought]
        self.assertEqual(got[2:], wanted, (chances, total))

    def test_by_another_way(self):
        for chances in ((2, 8, 8), (8, 2, 8), (8, 8, 2), (5, 5, 5), (3, 6, 4)):
            for total in (2, 3, 5, 6):
                self.check(chances, total)
        for chances in ((5, 5, 5, 5), (4, 6, 3, 8)):
            for total in (3, 4, 5):
                self.check(chances, total)
        self.check((4, 6, 3, 8), 7)

    def test_two_machines_have_one_way(self):
        for total in range(1, 9):
            self.assertEqual(last(call("begin", 3, 8), call("total", total), call("place", total)), [0])

    def test_ways_as_good_have_the_same_place(self):
        # Three alike: 1, 4 and 4, 1 are as good, and 2, 3 and 3, 2.
        got = ask(call("begin", 5, 5, 5), call("total", 5), *[call("place", held, 5 - held) for held in (1, 2, 3, 4)])
        self.assertEqual(got[2:], [[2], [0], [0], [2]])

    def test_the_best_has_none_ahead_and_the_worst_all_that_are_better(self):
        got = ask(call("begin", 3, 6, 4), call("total", 6), call("best"), call("worst"))
        places = ask(call("begin", 3, 6, 4), call("total", 6), call("place", *got[2][1:3]), call("place", *got[3][1:3]))
        self.assertEqual(places[2:], [[0], [4]])

    def test_a_way_of_other_room(self):
        got = ask(call("begin", 5, 5, 5), call("total", 4), call("place", 1, 2), call("place", 2, 3), call("of", 1, 2),
                  call("place", 2, 2), call("place", 8, 2), call("total", 8), call("place", 8, 2), call("place", 2, 2))
        self.assertEqual(got[2:4], [[-22], [-22]])
        self.assertEqual(got[4][0], 3)
        self.assertEqual(got[5:], [[0], [-22], [4], [-22], [-22]])

    def test_not_a_way(self):
        for many in range(7):
            if many != 2:
                self.assertEqual(last(call("begin", 5, 5, 5), call("place", *[1] * many)), [-22], many)
        for way in ((0, 2), (2, 0), (0, 0), (9, 1), (LARGEST, 1), (LARGEST, LARGEST)):
            self.assertEqual(last(call("begin", 5, 5, 5), call("place", *way)), [-22], way)
        # All room, yet a room of none, or of more than there may be.
        self.assertEqual(last(call("begin", 5, 5, 5), call("total", 8), call("place", 0, 8)), [-22])
        # Right sums all, yet of other lengths.
        self.assertEqual(last(call("begin", 5, 5, 5), call("total", 3), call("place", 3)), [-22])
        self.assertEqual(last(call("begin", 5, 5, 5), call("total", 3), call("place", 1, 1, 1)), [-22])

    def test_too_many_fillings(self):
        # Of 7 by four machines: 3 times 3 times 4 fillings are 36, 2 times 4 times 4 are 32.
        for way in ((2, 2, 3), (1, 3, 3), (3, 1, 3), (1, 2, 4)):
            self.assertEqual(last(call("begin", 5, 5, 5, 5), call("total", 7), call("place", *way)), [-22], way)

    def test_not_begun(self):
        self.assertEqual(ask(call("place", 1), call("place")), [[-11], [-11]])


class Turned(unittest.TestCase):
    def test_by_another_way(self):
        for chances in ((2, 8, 8), (8, 2, 8), (8, 8, 2), (5, 5, 5), (3, 6, 4), (4, 6, 3, 8), (5, 5, 5, 5)):
            for total in (3, 4, 5):
                way = best(chances[::-1], total)
                got = last(call("begin", *chances), call("total", total), call("turned"))
                self.assertEqual(got, [len(way), *way, *told(reckoned(chances[::-1], way))], (chances, total))

    def test_two_machines(self):
        for chances in ((2, 7), (9, 1), (5, 5)):
            for total in range(1, 9):
                got = last(call("begin", *chances), call("total", total), call("turned"))
                self.assertEqual(got, [1, total, *told(two_machines(*chances[::-1], total))])

    def test_one_for_each(self):
        got = last(call("begin", 2, 5, 9), call("turned"))
        self.assertEqual(got, [2, 1, 1, *told(three_machines_one_each(9, 5, 2))])

    def test_the_first_of_alike_ones_is_the_first_turned_round_too(self):
        # Three alike are the same line turned: the first is 1, 2 both times, not 2, 1.
        got = ask(call("begin", 5, 5, 5), call("total", 3), call("best"), call("turned"))
        self.assertEqual([got[2][:3], got[3][:3]], [[2, 1, 2], [2, 1, 2]])
        self.assertEqual(got[2], got[3])

    def test_as_best_behind_a_turn(self):
        for chances in ((2, 7), (2, 5, 9), (9, 2, 2), (4, 6, 3, 8), (7, 7, 2, 3)):
            total = len(chances) + 1
            first = [call("begin", *chances), call("total", total)]
            self.assertEqual(last(*first, call("turned")), last(*first, call("turn"), call("best")), chances)
            self.assertEqual(last(*first, call("best")), last(*first, call("turn"), call("turned")), chances)

    def test_machines_stay_as_they_stand(self):
        got = ask(call("begin", 2, 5, 9), call("total", 6), call("best"), call("turned"), call("best"), call("state"))
        self.assertEqual(got[2], got[4])
        self.assertEqual(got[5], [6, 2, 5, 9])

    def test_not_begun(self):
        self.assertEqual(ask(call("turned")), [[-11]])


if __name__ == "__main__":
    unittest.main()
