"""state and bound."""

import unittest

from tests.helper import LARGEST, ask, call, last


class State(unittest.TestCase):
    def test_room_for_all_then_chances(self):
        for chances in ((1, 9), (9, 1, 5), (2, 3, 4, 5)):
            self.assertEqual(last(call("begin", *chances), call("state")), [len(chances) - 1, *chances])

    def test_follows_each_change(self):
        got = ask(
            call("begin", 2, 3, 4), call("total", 7), call("state"), call("chance", 1, 9), call("state"),
            call("swap", 0, 1), call("state"), call("turn"), call("state"), call("swap", 2, 2), call("state"),
            call("begin", 6, 5), call("state"),
        )
        self.assertEqual(got[2::2], [[7, 2, 3, 4], [7, 2, 9, 4], [7, 9, 2, 4], [7, 4, 2, 9], [7, 4, 2, 9], [1, 6, 5]])

    def test_all_room_that_may_be(self):
        for chances, most in (((5, 5), 8), ((5, 5, 5), 8), ((5, 5, 5, 5), 7)):
            self.assertEqual(last(call("begin", *chances), call("total", most), call("state")), [most, *chances])

    def test_not_begun(self):
        self.assertEqual(ask(call("state"), call("begin", 5, 0), call("state")), [[-11], [-22], [-11]])

    def test_no_question_changes_it(self):
        asked = [
            call("best"), call("worst"), call("ways"), call("of", 2, 2), call("place", 2, 3), call("worth"),
            call("need", 1, 5), call("order", 3, 1), call("turned"), call("bound"), call("gain", 1), call("neck"),
            call("state"),
        ]
        first = [call("begin", 3, 6, 4), call("total", 5)]
        for one in asked:
            got = ask(*first, one, call("state"))
            self.assertGreaterEqual(got[2][0], 0, one)
            self.assertEqual(got[3], [5, 3, 6, 4], one)

    def test_no_refusal_changes_it(self):
        wrong = [
            call("begin", 1, 2, 3, 4, 5), call("total", 1), call("total", 9), call("chance", 3, 1),
            call("chance", 0, 0), call("swap", 0, 3), call("swap", 3, 0), call("of", 9, 1), call("place", 1, 1), call("need", 1, 0),
            call("need", 1, 1), call("order", 5, 5), call("gain", 3), call("gain", 1), call("worth"),
        ]
        first = [call("begin", 3, 9, 4), call("total", 8)]
        for one in wrong:
            got = ask(*first, one, call("state"))
            self.assertLess(got[2][0], 0, one)
            self.assertEqual(len(got[2]), 1, one)
            self.assertEqual(got[3], [8, 3, 9, 4], one)
        self.assertEqual(ask(call("begin", 9, 9), call("neck"), call("state")), [[0], [-6], [1, 9, 9]])


class Bound(unittest.TestCase):
    def test_worst_first_between_last(self):
        for chances in ((2, 8), (8, 2), (2, 8, 9), (8, 2, 9), (9, 8, 2), (2, 7, 8, 9), (9, 2, 8, 9), (7, 8, 9, 2)):
            self.assertEqual(last(call("begin", *chances), call("bound")), [2])

    def test_all_alike(self):
        for tenths in range(1, 10):
            for machines in (2, 3, 4):
                self.assertEqual(last(call("begin", *[tenths] * machines), call("bound")), [tenths])

    def test_follows_changes(self):
        got = ask(call("begin", 5, 3), call("bound"), call("chance", 1, 7), call("bound"), call("chance", 0, 1),
                  call("bound"), call("chance", 0, 0), call("bound"), call("total", 8), call("bound"))
        self.assertEqual(got[1::2], [[3], [5], [1], [1], [1]])

    def test_not_begun(self):
        self.assertEqual(ask(call("bound"), call("begin", LARGEST, 5), call("bound")), [[-11], [-22], [-11]])


if __name__ == "__main__":
    unittest.main()
