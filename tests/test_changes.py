"""begin, total, chance, swap and turn."""

import unittest

from tests.helper import LARGEST, NAMES, ask, call, last, three_machines_one_each, told, two_machines


def chances_shown(chances):
    """Calls that show chances one by one: each sets what is there, and is answered by what was."""
    return [call("chance", machine, tenths) for machine, tenths in enumerate(chances)]


class ShowsLine(unittest.TestCase):
    def shows(self, calls, chances, room_for_all):
        """What the object is behind these calls, by the answers of calls that tell what was."""
        shown = ask(*calls, call("total", room_for_all), *chances_shown(chances), call("chance", len(chances), 5))
        self.assertEqual(shown[len(calls):], [[room_for_all]] + [[tenths] for tenths in chances] + [[-2]], calls)


class Begin(ShowsLine):
    def test_two_to_four_machines(self):
        for chances in ((1, 9), (9, 1, 5), (2, 3, 4, 5)):
            self.assertEqual(last(call("begin", *chances)), [0])
            self.shows([call("begin", *chances)], chances, len(chances) - 1)

    def test_how_many_numbers(self):
        for many in range(7):
            self.assertEqual(last(call("begin", *[5] * many)), [0] if 2 <= many <= 4 else [-22], many)

    def test_each_is_1_to_9(self):
        for wrong in (0, 10, 11, LARGEST):
            for machines in (2, 3, 4):
                for at in range(machines):
                    chances = [5] * machines
                    chances[at] = wrong
                    self.assertEqual(last(call("begin", *chances)), [-22], chances)

    def test_again_is_another_line_with_one_place_for_each_room(self):
        calls = [call("begin", 2, 3, 4), call("total", 7), call("begin", 6, 5)]
        self.assertEqual(ask(*calls), [[0], [2], [0]])
        self.shows(calls, (6, 5), 1)
        self.shows([call("begin", 2, 3, 4), call("total", 7), call("begin", 2, 3, 4)], (2, 3, 4), 2)

    def test_refused_leaves_the_line(self):
        for wrong in ((), (5,), (5, 0), (5, 5, 10), (1, 2, 3, 4, 5), (1, 1, 1, 1, 1, 1), (LARGEST, LARGEST)):
            self.shows([call("begin", 2, 3, 4), call("total", 7), call("begin", *wrong)], (2, 3, 4), 7)


class NotBegun(unittest.TestCase):
    every_call = [
        call("total", 1), call("chance", 0, 5), call("swap", 0, 1), call("turn"), call("best"), call("worst"),
        call("ways"), call("of", 1), call("place", 1), call("worth"), call("need", 1, 2), call("order", 1),
        call("turned"), call("bound"), call("gain", 0), call("neck"), call("state"),
    ]

    def test_all_others_answer_so(self):
        self.assertEqual(len(self.every_call), len(NAMES) - 1)
        for one in self.every_call:
            self.assertEqual(ask(one), [[-11]], one)
        self.assertEqual(ask(*self.every_call), [[-11]] * len(self.every_call))

    def test_ahead_of_other_refusals(self):
        wrong = [
            call("total", 0), call("total", LARGEST), call("chance", 4, 0), call("chance", LARGEST, LARGEST),
            call("swap", 0, 7), call("swap", LARGEST, LARGEST), call("of"), call("of", 1, 2, 3, 4, 5, 6),
            call("place"), call("place", 0, 0), call("order", 9, 9, 9, 9, 9, 9), call("need", 2, 1), call("gain", 4),
        ]
        for one in wrong:
            self.assertEqual(ask(one), [[-11]], one)

    def test_a_refused_begin_begins_nothing(self):
        for one in self.every_call:
            self.assertEqual(ask(call("begin", 5), one, call("begin", 5, 0), one), [[-22], [-11]] * 2, one)

    def test_begun_later(self):
        got = ask(call("turn"), call("begin"), call("best"), call("begin", 5, 5), call("best"))
        self.assertEqual(got, [[-11], [-22], [-11], [0], [1, 1, 1, 3]])


class Total(ShowsLine):
    def test_answers_what_it_was(self):
        got = ask(call("begin", 5, 5), *[call("total", n) for n in (1, 8, 3, 3, 1)])
        self.assertEqual(got, [[0], [1], [1], [8], [3], [3]])

    def test_from_one_for_each_to_eight(self):
        allowed = {2: range(1, 9), 3: range(2, 9), 4: range(3, 8)}
        for machines, taken in allowed.items():
            for n in range(12):
                calls = [call("begin", *[5] * machines), call("total", n)]
                if n in taken:
                    self.assertEqual(last(*calls), [machines - 1], (machines, n))
                    self.shows(calls, [5] * machines, n)
                else:
                    self.assertEqual(last(*calls), [-22], (machines, n))
                    self.shows(calls, [5] * machines, machines - 1)

    def test_above_eight_though_there_are_such_ways(self):
        # 8 and 2 are a way, of 10.
        got = ask(call("begin", 5, 5, 5), call("total", 10), call("total", 9), call("total", 2))
        self.assertEqual(got, [[0], [-22], [-22], [2]])

    def test_no_way_of_eight_by_four_machines(self):
        got = ask(call("begin", 5, 5, 5, 5), call("total", 7), call("total", 8), call("total", 3))
        self.assertEqual(got, [[0], [3], [-22], [7]])

    def test_largest(self):
        self.assertEqual(ask(call("begin", 5, 5), call("total", LARGEST), call("total", 1)), [[0], [-22], [1]])

    def test_stays_as_machines_change(self):
        calls = [call("begin", 2, 3, 4), call("total", 5), call("turn"), call("swap", 0, 1), call("chance", 2, 9)]
        self.shows(calls, (3, 4, 9), 5)


class Chance(ShowsLine):
    def test_answers_what_it_was(self):
        got = ask(call("begin", 2, 3, 4), call("chance", 1, 9), call("chance", 1, 1), call("chance", 1, 1))
        self.assertEqual(got, [[0], [3], [9], [1]])
        self.shows([call("begin", 2, 3, 4), call("chance", 1, 9)], (2, 9, 4), 2)

    def test_each_machine(self):
        for machine in range(4):
            wanted = [2, 3, 4, 5]
            wanted[machine] = 8
            self.shows([call("begin", 2, 3, 4, 5), call("chance", machine, 8)], wanted, 3)

    def test_no_such_machine(self):
        for chances in ((5, 5), (5, 5, 5), (5, 5, 5, 5)):
            for machine in (len(chances), len(chances) + 1, LARGEST):
                calls = [call("begin", *chances), call("chance", machine, 3)]
                self.assertEqual(last(*calls), [-2])
                self.shows(calls, chances, len(chances) - 1)

    def test_out_of_range(self):
        for tenths in (0, 10, 11, LARGEST):
            calls = [call("begin", 2, 3), call("chance", 0, tenths)]
            self.assertEqual(last(*calls), [-22])
            self.shows(calls, (2, 3), 1)

    def test_no_such_machine_comes_first(self):
        for tenths in (0, 10, LARGEST):
            self.assertEqual(last(call("begin", 2, 3), call("chance", 2, tenths)), [-2])

    def test_it_counts(self):
        got = ask(call("begin", 5, 5), call("best"), call("chance", 1, 7), call("best"))
        self.assertEqual(got[1::2], [[1, 1, 1, 3], [1, 1] + told(two_machines(5, 7, 1))])


class Swap(ShowsLine):
    def test_exchanged(self):
        for one, other, wanted in ((0, 1, (3, 2, 4, 5)), (3, 0, (5, 3, 4, 2)), (1, 3, (2, 5, 4, 3))):
            calls = [call("begin", 2, 3, 4, 5), call("swap", one, other)]
            self.assertEqual(last(*calls), [4])
            self.shows(calls, wanted, 3)

    def test_answers_how_many_machines(self):
        for chances in ((5, 5), (5, 5, 5), (5, 5, 5, 5)):
            self.assertEqual(last(call("begin", *chances), call("swap", 0, 1)), [len(chances)])

    def test_with_itself(self):
        for machine in range(3):
            calls = [call("begin", 2, 3, 4), call("swap", machine, machine)]
            self.assertEqual(last(*calls), [3])
            self.shows(calls, (2, 3, 4), 2)

    def test_no_such_machine(self):
        for one, other in ((3, 0), (0, 3), (3, 3), (LARGEST, 1), (1, LARGEST), (LARGEST, LARGEST)):
            calls = [call("begin", 2, 3, 4), call("swap", one, other)]
            self.assertEqual(last(*calls), [-2], (one, other))
            self.shows(calls, (2, 3, 4), 2)

    def test_it_counts(self):
        got = last(call("begin", 2, 5, 9), call("swap", 1, 2), call("best"))
        self.assertEqual(got, [2, 1, 1] + told(three_machines_one_each(2, 9, 5)))


class Turn(ShowsLine):
    def test_the_other_way_round(self):
        for chances in ((2, 3), (2, 3, 4), (2, 3, 4, 5)):
            calls = [call("begin", *chances), call("turn")]
            self.assertEqual(last(*calls), [len(chances)])
            self.shows(calls, chances[::-1], len(chances) - 1)
            self.shows(calls + [call("turn")], chances, len(chances) - 1)

    def test_it_counts(self):
        # (Turned, a line brings as much with rooms turned: other rooms must show it.)
        straight = ask(call("begin", 2, 5, 9), call("of", 1, 3), call("of", 3, 1))
        turned = ask(call("begin", 2, 5, 9), call("turn"), call("of", 3, 1), call("of", 1, 3))
        self.assertEqual(turned[2:], straight[1:])
        self.assertNotEqual(straight[1], straight[2])


if __name__ == "__main__":
    unittest.main()
