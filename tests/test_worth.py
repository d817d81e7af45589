"""worth and need."""

import unittest
from fractions import Fraction

from tests.helper import LARGEST, ask, call, last, told, two_machines
from tests.second import best, output


class Worth(unittest.TestCase):
    def check(self, chances, total):
        got = last(call("begin", *chances), call("total", total), call("worth"))
        wanted = output(chances, total + 1) - output(chances, total)
        self.assertEqual(got, [0, *told(wanted)], (chances, total))

    def test_two_alike_by_hand(self):
        # Of 1/2 each, n places bring n of 2n + 1: one more is worth 1 of (2n + 1)(2n + 3).
        for n in range(1, 8):
            got = last(call("begin", 5, 5), call("total", n), call("worth"))
            self.assertEqual(got, [0, 1, (2 * n + 1) * (2 * n + 3)])

    def test_two_machines(self):
        for chances in ((1, 9), (9, 1), (4, 7), (9, 9), (1, 1)):
            for n in range(1, 8):
                got = last(call("begin", *chances), call("total", n), call("worth"))
                self.assertEqual(got, [0, *told(two_machines(*chances, n + 1) - two_machines(*chances, n))])

    def test_three_machines(self):
        for chances in ((5, 5, 5), (2, 8, 8), (8, 2, 8), (8, 8, 2)):
            for total in (2, 3, 4, 7):
                self.check(chances, total)

    def test_four_machines(self):
        for total in (3, 4, 5, 6):
            self.check((5, 5, 5, 5), total)
            self.check((4, 6, 3, 8), total)

    def test_below_0_where_ways_would_have_too_many_fillings(self):
        # Of 6 the way 2, 2, 2 is one; of 7 only 5, 1, 1 in some order.
        for chances in ((5, 5, 5, 5), (1, 1, 1, 1), (9, 9, 9, 9)):
            got = last(call("begin", *chances), call("total", 6), call("worth"))
            self.assertEqual(got[0], 0)
            self.assertLess(got[1], 0)
            self.assertGreaterEqual(got[2], 1)
            self.assertEqual(Fraction(got[1], got[2]).denominator, got[2])
        self.check((1, 1, 1, 1), 6)

    def test_never_below_0_of_three_at_most(self):
        for chances in ((5, 5), (9, 9), (1, 1, 1), (9, 9, 9), (9, 1, 9), (3, 3, 4)):
            for total in range(len(chances) - 1, 8):
                got = last(call("begin", *chances), call("total", total), call("worth"))
                self.assertGreater(got[1], 0, (chances, total))

    def test_8(self):
        self.assertEqual(last(call("begin", 5, 5), call("total", 8), call("worth")), [-28])
        # There is a way of ten, 8 and 2, but 8 is the most for all.
        self.assertEqual(last(call("begin", 5, 5, 5), call("total", 8), call("worth")), [-28])

    def test_no_way_of_one_more(self):
        got = ask(call("begin", 5, 5, 5, 5), call("total", 7), call("worth"), call("state"),
                  call("total", 6), call("worth"))
        self.assertEqual(got[2:5], [[-28], [7, 5, 5, 5, 5], [7]])
        self.assertEqual(got[5][0], 0)

    def test_changes_nothing(self):
        got = ask(call("begin", 5, 5), call("worth"), call("worth"), call("best"), call("state"))
        self.assertEqual(got[1:], [[0, 1, 15], [0, 1, 15], [1, 1, 1, 3], [1, 5, 5]])

    def test_not_begun(self):
        self.assertEqual(ask(call("worth"), call("begin", 5), call("worth")), [[-11], [-22], [-11]])


class Need(unittest.TestCase):
    def needs(self, chances, x, y):
        return last(call("begin", *chances), call("need", x, y))

    def test_two_alike_by_hand(self):
        # n places bring n of 2n + 1: just so much is enough, a bit more isn't.
        for n in range(1, 9):
            self.assertEqual(self.needs((5, 5), n, 2 * n + 1), [n, n])
            self.assertEqual(self.needs((5, 5), 40 * n, 40 * (2 * n + 1)), [n, n])
            above = [n + 1, n + 1] if n < 8 else [-33]
            self.assertEqual(self.needs((5, 5), 40 * n + 1, 40 * (2 * n + 1)), above)
            self.assertEqual(self.needs((5, 5), 40 * n - 1, 40 * (2 * n + 1)), [n, n])

    def test_reached_at_once(self):
        for chances in ((5, 5), (1, 1), (5, 5, 5), (1, 9, 1), (5, 5, 5, 5), (1, 1, 1, 1)):
            rooms = len(chances) - 1
            for y in (1, 7, 1000):
                self.assertEqual(self.needs(chances, 0, y), [rooms] + [1] * rooms, (chances, y))
            self.assertEqual(self.needs(chances, 1, 1000), [rooms] + [1] * rooms, chances)

    def test_just_what_one_for_each_brings(self):
        # 3 of 11 by three alike (see test_brings).
        self.assertEqual(self.needs((5, 5, 5), 3, 11), [2, 1, 1])
        self.assertEqual(self.needs((5, 5, 5), 273, 1000), [3, 1, 2])
        self.assertEqual(self.needs((5, 5, 5), 272, 1000), [2, 1, 1])

    def test_never_reached(self):
        for chances in ((5, 5), (9, 9), (9, 9, 9), (2, 8, 8), (9, 9, 9, 9), (7, 7, 1, 7)):
            for x, y in ((1, 1), (1000, 1000), (min(chances), 10), (100 * min(chances), 1000)):
                self.assertEqual(self.needs(chances, x, y), [-33], (chances, x, y))

    def test_out_of_range(self):
        for x, y in ((0, 0), (1, 0), (0, 1001), (1, 1001), (1001, 1001), (2, 1), (11, 10), (1001, 1000), (0, LARGEST),
                     (LARGEST, LARGEST), (LARGEST, 1000), (LARGEST, 0)):
            for chances in ((5, 5), (5, 5, 5), (5, 5, 5, 5)):
                self.assertEqual(self.needs(chances, x, y), [-22], (chances, x, y))

    def test_edges_of_the_range(self):
        self.assertEqual(self.needs((5, 5), 0, 1), [1, 1])
        self.assertEqual(self.needs((5, 5), 1, 1), [-33])
        self.assertEqual(self.needs((5, 5), 333, 1000), [1, 1])
        self.assertEqual(self.needs((5, 5), 334, 1000), [2, 2])
        self.assertEqual(self.needs((5, 5), 333, 999), [1, 1])

    def test_three_machines_by_another_way(self):
        for chances in ((5, 5, 5), (2, 8, 8), (8, 2, 8), (8, 8, 2)):
            for total in range(2, 9):
                # The most thousandths that are still brought by so much room.
                brought = output(chances, total)
                x = brought.numerator * 1000 // brought.denominator
                least = next(n for n in range(2, 9) if output(chances, n) >= Fraction(x, 1000))
                self.assertEqual(self.needs(chances, x, 1000), [least, *best(chances, least)], (chances, x))

    def test_more_than_the_most_room_of_four_machines_brings(self):
        # Of 7 less comes out than of 6, and of 8 there's no way: 6 is needed, and more is never reached.
        chances = (5, 5, 5, 5)
        six, seven = output(chances, 6), output(chances, 7)
        x = six.numerator * 1000 // six.denominator
        self.assertLess(seven, Fraction(x, 1000))
        self.assertGreater(Fraction(x, 1000), output(chances, 5))
        self.assertEqual(self.needs(chances, x, 1000), [6, *best(chances, 6)])
        self.assertEqual(self.needs(chances, x + 1, 1000), [-33])

    def test_whatever_room_is_for_all(self):
        for total in range(1, 9):
            got = ask(call("begin", 5, 5), call("total", total), call("need", 3, 7), call("need", 1, 2), call("state"))
            self.assertEqual(got[2:], [[3, 3], [-33], [total, 5, 5]])

    def test_not_begun(self):
        self.assertEqual(ask(call("need", 0, 1), call("need", 1, 0)), [[-11], [-11]])


if __name__ == "__main__":
    unittest.main()
