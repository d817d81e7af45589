"""gain and neck."""

import unittest

from tests.helper import LARGEST, ask, call, last, three_machines_one_each, told, two_machines
from tests.second import best, brings, gained


class Gain(unittest.TestCase):
    def test_two_machines_by_hand(self):
        # With one place p and q bring pq of p + q - pq: of 5, 5 that's 1/3, of 6, 5 it's 3/8.
        got = ask(call("begin", 5, 5), call("gain", 0), call("gain", 1))
        self.assertEqual(got[1:], [[0, 1, 24], [0, 1, 24]])

    def test_two_machines(self):
        for first, second, total in ((5, 5, 3), (1, 8, 1), (8, 1, 8), (8, 8, 4), (3, 9, 2)):
            calls = [call("begin", first, second), call("total", total)]
            now = two_machines(first, second, total)
            self.assertEqual(last(*calls, call("gain", 0)), [0, *told(two_machines(first + 1, second, total) - now)])
            if second < 9:
                mended = two_machines(first, second + 1, total)
                self.assertEqual(last(*calls, call("gain", 1)), [0, *told(mended - now)])

    def test_three_machines_one_place_each(self):
        now = three_machines_one_each(4, 6, 8)
        wanted = [three_machines_one_each(*raised) - now for raised in ((5, 6, 8), (4, 7, 8), (4, 6, 9))]
        got = ask(call("begin", 4, 6, 8), *[call("gain", machine) for machine in range(3)])
        self.assertEqual(got[1:], [[0, *told(one)] for one in wanted])

    def test_by_another_way(self):
        for chances, total in (((5, 5, 5), 5), ((2, 8, 8), 4), ((8, 8, 2), 4), ((4, 6, 3, 8), 4), ((5, 5, 5, 5), 5)):
            got = ask(call("begin", *chances), call("total", total), *[call("gain", k) for k in range(len(chances))])
            wanted = [[0, *told(gained(chances, total, machine))] for machine in range(len(chances))]
            self.assertEqual(got[2:], wanted, (chances, total))

    def test_by_the_best_way_as_it_is(self):
        # Mended, another way would be best, and bring more: it's not asked for.
        chances, mended, total = (5, 5, 5), (5, 5, 6), 5
        self.assertNotEqual(best(chances, total), best(mended, total))
        way = best(chances, total)
        got = last(call("begin", *chances), call("total", total), call("gain", 2))
        self.assertEqual(got, [0, *told(brings(mended, way) - brings(chances, way))])
        self.assertGreater(brings(mended, best(mended, total)), brings(mended, way))

    def test_its_chance_is_9(self):
        got = ask(call("begin", 9, 5, 9), call("gain", 0), call("gain", 1), call("gain", 2), call("state"))
        self.assertEqual([got[1], got[3], got[4]], [[-17], [-17], [2, 9, 5, 9]])
        self.assertEqual(got[2][0], 0)

    def test_8_is_not_9(self):
        got = last(call("begin", 8, 9), call("gain", 0))
        self.assertEqual(got, [0, *told(two_machines(9, 9, 1) - two_machines(8, 9, 1))])

    def test_no_such_machine(self):
        for chances in ((5, 5), (5, 5, 5), (5, 5, 5, 5), (9, 9), (9, 9, 9)):
            for machine in (len(chances), len(chances) + 1, LARGEST):
                got = ask(call("begin", *chances), call("gain", machine), call("state"))
                self.assertEqual(got[1:], [[-2], [len(chances) - 1, *chances]])

    def test_changes_nothing(self):
        got = ask(call("begin", 5, 5), call("gain", 0), call("gain", 0), call("state"), call("best"))
        self.assertEqual(got[1:], [[0, 1, 24], [0, 1, 24], [1, 5, 5], [1, 1, 1, 3]])

    def test_not_begun(self):
        self.assertEqual(ask(call("gain", 0), call("gain", 4)), [[-11], [-11]])


class Neck(unittest.TestCase):
    def check(self, chances, total):
        machines = [machine for machine, tenths in enumerate(chances) if tenths < 9]
        most = max(machines, key=lambda machine: gained(chances, total, machine))
        got = last(call("begin", *chances), call("total", total), call("neck"))
        self.assertEqual(got, [most, *told(gained(chances, total, most))], (chances, total))

    def test_by_another_way(self):
        for chances in ((2, 8, 8), (8, 2, 8), (8, 8, 2), (5, 5, 5), (3, 6, 4), (4, 5, 5)):
            for total in (2, 3, 5):
                self.check(chances, total)
        for chances in ((5, 5, 5, 5), (4, 6, 3, 8), (7, 7, 7, 2), (9, 4, 9, 4)):
            for total in (3, 4):
                self.check(chances, total)

    def test_worst_first_between_last(self):
        for at in range(4):
            chances = [7, 7, 7, 7]
            chances[at] = 2
            self.assertEqual(last(call("begin", *chances), call("neck"))[0], at)

    def test_not_always_the_worst(self):
        # The worst is the first, with 4 tenths, but the middle one gains more.
        got = last(call("begin", 4, 5, 5), call("total", 3), call("neck"))
        self.assertEqual(got[0], 1)
        self.check((4, 5, 5), 3)

    def test_of_alike_ones_the_first(self):
        self.assertEqual(last(call("begin", 5, 5), call("neck")), [0, 1, 24])
        for chances in ((3, 8, 3), (3, 8, 8, 3), (6, 6)):
            got = ask(call("begin", *chances), call("neck"), *[call("gain", k) for k in range(len(chances))])
            self.assertEqual(got[1], [0] + got[2][1:], chances)
            self.assertEqual(got[2], got[-1], chances)

    def test_those_of_9_are_left_out(self):
        for chances, machine in (((9, 8), 1), ((8, 9), 0), ((9, 9, 8), 2), ((9, 8, 9), 1), ((9, 9, 9, 1), 3)):
            got = ask(call("begin", *chances), call("neck"), call("gain", machine))
            self.assertEqual(got[1], [machine] + got[2][1:], chances)

    def test_all_chances_9(self):
        for machines in (2, 3, 4):
            got = ask(call("begin", *[9] * machines), call("neck"), call("state"), call("chance", 1, 8), call("neck"))
            self.assertEqual(got[1:4], [[-6], [machines - 1] + [9] * machines, [9]])
            self.assertEqual(got[4][0], 1)

    def test_not_begun(self):
        self.assertEqual(ask(call("neck")), [[-11]])


if __name__ == "__main__":
    unittest.main()
