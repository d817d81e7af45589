"""What holds, a to f, over many lines of machines."""

import random
import unittest
from fractions import Fraction
from itertools import permutations, product

from tests.helper import ask, call, ways_by_trial

EDGES = [
    (1, 1), (9, 9), (5, 5), (1, 9), (9, 1), (1, 1, 1), (9, 9, 9), (5, 5, 5), (1, 9, 9), (9, 1, 9), (9, 9, 1), (1, 9, 1),
    (1, 1, 1, 1), (9, 9, 9, 9), (5, 5, 5, 5), (1, 9, 9, 9), (9, 1, 9, 9), (9, 9, 1, 9), (9, 9, 9, 1), (9, 1, 1, 9),
]


def lines(seed, many, most=4):
    """The edges, and as many more that are drawn, the same each time."""
    draw = random.Random(seed)
    drawn = [tuple(draw.randint(1, 9) for machine in range(draw.randint(2, most))) for at in range(many)]
    return [chances for chances in EDGES + drawn if len(chances) <= most]


def totals(chances):
    return range(len(chances) - 1, 8 if len(chances) == 4 else 9)


def fraction(answer):
    return Fraction(answer[-2], answer[-1])


def bests(chances):
    """The best's answer by all room for all that there may be."""
    calls = [one for total in totals(chances) for one in (call("total", total), call("best"))]
    got = ask(call("begin", *chances), *calls)
    return dict(zip(totals(chances), got[2::2]))


class NoWayBringsMoreThanTheBest(unittest.TestCase):
    def test_each_way_of_all_room(self):
        for chances in lines(1, 40):
            for total in totals(chances):
                ways = ways_by_trial(len(chances) - 1, total)
                got = ask(call("begin", *chances), call("total", total), call("best"), call("worst"), call("ways"),
                          *[call("of", *way) for way in ways], *[call("place", *way) for way in ways])
                best, worst, counted = got[2:5]
                brought = [fraction(answer) for answer in got[5:5 + len(ways)]]
                places = [answer[0] for answer in got[5 + len(ways):]]
                self.assertTrue(all(fraction(worst) <= one <= fraction(best) for one in brought), (chances, total))
                self.assertEqual(places.count(0), counted[1], (chances, total))
                self.assertEqual(tuple(best[1:-2]), ways[places.index(0)], (chances, total))
                self.assertEqual(places, [len([one for one in brought if one > own]) for own in brought])


class TurnedRoundTheBestIsAsGood(unittest.TestCase):
    def test_by_the_same_room_turned(self):
        for chances in lines(2, 60):
            for total in totals(chances):
                got = ask(call("begin", *chances), call("total", total), call("best"), call("turned"))
                best, turned = got[2:]
                self.assertEqual(best[-2:], turned[-2:], (chances, total))
                back = ask(call("begin", *chances), call("turn"), call("of", *reversed(best[1:-2])),
                           call("turn"), call("of", *reversed(turned[1:-2])))
                self.assertEqual([back[2], back[4]], [[total] + best[-2:]] * 2, (chances, total))


class EachOrderAsTheOrderTurned(unittest.TestCase):
    def all_ways(self, rooms):
        return [way for total in range(rooms, 11) for way in ways_by_trial(rooms, total)]

    def test_with_rooms_turned(self):
        for chances in lines(3, 25):
            ways = self.all_ways(len(chances) - 1)
            straight = ask(call("begin", *chances), *[call("of", *way) for way in ways])
            turned = ask(call("begin", *chances[::-1]), *[call("of", *way[::-1]) for way in ways])
            self.assertEqual(straight, turned, chances)

    def test_all_two_machines(self):
        for chances in product(range(1, 10), repeat=2):
            straight = ask(call("begin", *chances), *[call("of", room) for room in range(1, 9)])
            turned = ask(call("begin", *chances[::-1]), *[call("of", room) for room in range(1, 9)])
            self.assertEqual(straight, turned, chances)

    def test_no_order_brings_more_than_the_one_told(self):
        for chances in lines(4, 12):
            for way in self.all_ways(len(chances) - 1)[::5]:
                got = ask(call("begin", *chances), call("order", *way))[1]
                orders = list(permutations(range(len(chances))))
                calls = [one for order in orders
                         for one in (call("begin", *[chances[machine] for machine in order]), call("of", *way))]
                brought = [fraction(answer) for answer in ask(*calls)[1::2]]
                self.assertEqual(tuple(got[1:-2]), orders[brought.index(max(brought))], (chances, way))
                self.assertEqual(fraction(got), max(brought), (chances, way))

    def test_the_order_told_is_as_good_turned_with_rooms_turned(self):
        for chances in lines(5, 12):
            ways = self.all_ways(len(chances) - 1)[::3]
            got = ask(call("begin", *chances), *[call("order", *way) for way in ways],
                      *[call("order", *way[::-1]) for way in ways])[1:]
            for one, other in zip(got[:len(ways)], got[len(ways):]):
                self.assertEqual(one[-2:], other[-2:], chances)


class MoreRoom(unittest.TestCase):
    def test_never_brings_fewer_of_three_machines_at_most(self):
        for chances in lines(6, 60, most=3):
            brought = [fraction(answer) for answer in bests(chances).values()]
            self.assertEqual(brought, sorted(brought), chances)

    def test_never_more_than_the_worst_machine_alone(self):
        for chances in lines(7, 60):
            bound = ask(call("begin", *chances), call("bound"))[1]
            self.assertEqual(bound, [min(chances)])
            for total, answer in bests(chances).items():
                self.assertLess(fraction(answer), Fraction(bound[0], 10), (chances, total))

    def test_worth_is_what_is_between_two_bests(self):
        for chances in lines(8, 30):
            best = bests(chances)
            for total in totals(chances):
                got = ask(call("begin", *chances), call("total", total), call("worth"))[2]
                if total + 1 in best:
                    self.assertEqual(got[0], 0)
                    self.assertEqual(fraction(got), fraction(best[total + 1]) - fraction(best[total]), (chances, total))
                else:
                    self.assertEqual(got, [-28], (chances, total))


class SoMuchRoomIsNeededAndNoLess(unittest.TestCase):
    def asked(self, best):
        """x of y at what each best brings, a bit above, a bit below; at nothing and all."""
        found = [(0, 1), (1, 1), (1, 2), (1, 1000), (999, 1000)]
        for answer in best.values():
            near = fraction(answer).limit_denominator(1000)
            for x in (near.numerator - 1, near.numerator, near.numerator + 1):
                if 0 <= x <= near.denominator:
                    found.append((x, near.denominator))
            floor = answer[-2] * 1000 // answer[-1]
            found.extend([(floor, 1000), (floor + 1, 1000)])
        return found

    def test_the_least_that_does(self):
        for chances in lines(9, 40):
            best = bests(chances)
            asked = self.asked(best)
            got = ask(call("begin", *chances), *[call("need", x, y) for x, y in asked])[1:]
            for (x, y), answer in zip(asked, got):
                enough = [total for total in best if fraction(best[total]) >= Fraction(x, y)]
                wanted = [enough[0]] + best[enough[0]][1:-2] if enough else [-33]
                self.assertEqual(answer, wanted, (chances, x, y))


if __name__ == "__main__":
    unittest.main()
