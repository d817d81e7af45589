"""best, worst and ways."""

import unittest
from fractions import Fraction

from tests.helper import ask, call, last, reckoned, told, two_machines, ways_by_trial

LINES = (
    (5, 5, 5), (9, 9, 9), (1, 1, 1), (2, 8, 8), (8, 2, 8), (8, 8, 2), (3, 6, 4), (1, 9, 1), (9, 1, 9),
    (5, 5, 5, 5), (2, 7, 7, 7), (7, 2, 7, 7), (7, 7, 2, 7), (7, 7, 7, 2), (4, 6, 3, 8), (9, 1, 1, 9),
)


def totals(machines):
    return range(machines - 1, 8 if machines == 4 else 9)


class AgainstAllWays(unittest.TestCase):
    """Each of all ways asked by of, and the best, the worst and how many picked out by hand."""

    def check(self, chances, total):
        ways = ways_by_trial(len(chances) - 1, total)
        got = ask(call("begin", *chances), call("total", total), call("best"), call("worst"), call("ways"),
                  *[call("of", *way) for way in ways])
        brought = [Fraction(above, below) for put, above, below in got[5:]]
        most, fewest = max(brought), min(brought)
        self.assertEqual(got[2], [len(ways[0]), *ways[brought.index(most)], *told(most)], (chances, total))
        self.assertEqual(got[3], [len(ways[0]), *ways[brought.index(fewest)], *told(fewest)], (chances, total))
        self.assertEqual(got[4], [len(ways), brought.count(most)], (chances, total))

    def test_all_totals(self):
        for chances in LINES:
            for total in totals(len(chances)):
                self.check(chances, total)


class ByAnotherWay(unittest.TestCase):
    def check(self, chances, total):
        ways = ways_by_trial(len(chances) - 1, total)
        brought = [reckoned(chances, way) for way in ways]
        most, fewest = max(brought), min(brought)
        got = ask(call("begin", *chances), call("total", total), call("best"), call("worst"), call("ways"))
        self.assertEqual(got[2], [len(ways[0]), *ways[brought.index(most)], *told(most)], (chances, total))
        self.assertEqual(got[3], [len(ways[0]), *ways[brought.index(fewest)], *told(fewest)], (chances, total))
        self.assertEqual(got[4], [len(ways), brought.count(most)], (chances, total))

    def test_three_machines(self):
        for chances in ((2, 8, 8), (8, 2, 8), (8, 8, 2), (5, 5, 5)):
            for total in (2, 3, 5, 8):
                self.check(chances, total)

    def test_four_machines(self):
        for chances in ((5, 5, 5, 5), (3, 6, 7, 8)):
            for total in (3, 4, 5):
                self.check(chances, total)
        self.check((4, 6, 3, 8), 6)
        self.check((4, 6, 3, 8), 7)


class TwoMachines(unittest.TestCase):
    def test_the_one_way_is_best_and_worst(self):
        for chances in ((5, 5), (1, 9), (9, 1), (9, 9)):
            for total in range(1, 9):
                wanted = [1, total] + told(two_machines(*chances, total))
                got = ask(call("begin", *chances), call("total", total), call("best"), call("worst"), call("ways"))
                self.assertEqual(got[2:], [wanted, wanted, [1, 1]])


class OneForEach(unittest.TestCase):
    def test_as_begun(self):
        for chances in LINES:
            rooms = len(chances) - 1
            got = ask(call("begin", *chances), call("best"), call("worst"), call("ways"), call("of", *[1] * rooms))
            wanted = [rooms] + [1] * rooms + got[4][1:]
            self.assertEqual(got[1:4], [wanted, wanted, [1, 1]])


class AsGood(unittest.TestCase):
    def test_of_alike_ones_the_first(self):
        # Three alike, turned round, are the same line, so 1, 2 brings as many as 2, 1.
        got = ask(call("begin", 5, 5, 5), call("total", 3), call("best"), call("worst"), call("ways"))
        wanted = [2, 1, 2] + told(reckoned((5, 5, 5), (2, 1)))
        self.assertEqual(got[2:], [wanted, wanted, [2, 2]])

    def test_the_middle_one_alone_is_best(self):
        got = ask(call("begin", 5, 5, 5), call("total", 4), call("best"), call("worst"), call("ways"))
        self.assertEqual([got[2][:3], got[3][:3], got[4]], [[2, 2, 2], [2, 1, 3], [3, 1]])

    def test_two_best_of_four(self):
        got = ask(call("begin", 5, 5, 5), call("total", 5), call("best"), call("worst"), call("ways"))
        self.assertEqual([got[2][:3], got[3][:3], got[4]], [[2, 2, 3], [2, 1, 4], [4, 2]])

    def test_four_alike(self):
        got = ask(call("begin", 5, 5, 5, 5), call("total", 4), call("best"), call("worst"), call("ways"))
        self.assertEqual([got[2][:4], got[3][:4], got[4]], [[3, 1, 2, 1], [3, 1, 1, 2], [3, 1]])


class HowManyWays(unittest.TestCase):
    def test_too_many_fillings_are_left_out(self):
        counted = {(3, n): n - 1 for n in range(2, 9)}
        # Of 7 only 1, 1, 5 in some order is left, of 6 all ten are ways.
        counted.update({(4, 3): 1, (4, 4): 3, (4, 5): 6, (4, 6): 10, (4, 7): 3})
        for (machines, total), many in counted.items():
            got = last(call("begin", *range(3, 3 + machines)), call("total", total), call("ways"))
            self.assertEqual(got[0], many, (machines, total))


class Asking(unittest.TestCase):
    def test_changes_nothing(self):
        asked = [call("best"), call("worst"), call("ways")]
        once = ask(call("begin", 3, 6, 4), call("total", 6), *asked)
        twice = ask(call("begin", 3, 6, 4), call("total", 6), *asked, *asked, call("total", 2), call("chance", 2, 1))
        self.assertEqual(twice[2:5], once[2:])
        self.assertEqual(twice[5:8], once[2:])
        self.assertEqual(twice[8:], [[6], [4]])

    def test_follows_changes_there_and_back(self):
        asked = [call("best"), call("worst"), call("ways")]
        got = ask(call("begin", 3, 6, 4), call("total", 6), *asked, call("chance", 0, 9), *asked,
                  call("chance", 0, 3), *asked, call("total", 5), *asked)
        again = ask(call("begin", 9, 6, 4), call("total", 6), *asked)
        less = ask(call("begin", 3, 6, 4), call("total", 5), *asked)
        self.assertEqual(got[6:9], again[2:])
        self.assertEqual(got[10:13], got[2:5])
        self.assertEqual(got[14:], less[2:])
        self.assertNotEqual(got[2:5], got[6:9])
        self.assertNotEqual(got[2:5], got[14:])


if __name__ == "__main__":
    unittest.main()
