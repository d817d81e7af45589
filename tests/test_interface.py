"""How calls are handed in, and what is given back."""

import unittest
from itertools import combinations, product
from time import process_time

from roombetween.room import answers
from tests.helper import LARGEST, NAMES, ask, call, joined, reckoned, split_answers, told, ways_by_trial

# Every call is among them.
MANY = [
    call("best"), call("begin", 3, 6, 4), call("total", 5), call("best"), call("chance", 0, 7), call("worst"),
    call("swap", 1, 2), call("ways"), call("turn"), call("of", 2, 3), call("place", 2, 3), call("worth"),
    call("need", 3, 10), call("order", 1, 3), call("turned"), call("bound"), call("gain", 1), call("neck"),
    call("state"), call("best"), call("begin", 5, 5), call("best"), call("state"),
]

REFUSED = [
    call("begin"), call("begin", 5), call("begin", 5, 10), call("begin", 1, 2, 3, 4, 5), call("begin", *[LARGEST] * 6),
    call("total", 1), call("total", 9), call("total", 10), call("total", LARGEST),
    call("chance", 3, 5), call("chance", 0, 0), call("chance", 0, 10), call("chance", LARGEST, LARGEST),
    call("swap", 0, 3), call("swap", 3, 0), call("swap", LARGEST, LARGEST),
    call("of"), call("of", 1), call("of", 1, 0), call("of", 5, 4), call("of", 1, 1, 1), call("of", *[LARGEST] * 6),
    call("place"), call("place", 1), call("place", 1, 1), call("place", 0, 8), call("place", *[LARGEST] * 6),
    call("order"), call("order", 1), call("order", 5, 4), call("order", 1, 9), call("order", *[LARGEST] * 6),
    call("need", 0, 0), call("need", 2, 1), call("need", 0, 1001), call("need", LARGEST, LARGEST), call("need", 1, 1),
    call("gain", 3), call("gain", LARGEST), call("gain", 1), call("worth"),
]
# What each of these is refused by, on a line of 3, 9, 4 with room for 8.
REFUSED_BY = [-22] * 9 + [-2, -22, -22, -2] + [-2] * 3 + [-22] * 6 + [-22] * 10 + [-22] * 4 + [-33, -2, -2, -17, -28]


class Form(unittest.TestCase):
    def test_number_by_number(self):
        self.assertEqual(answers([5]), [1, -11])
        self.assertEqual(answers([0, 2, 5, 5]), [1, 0])
        self.assertEqual(answers([0, 2, 5, 5, 5]), [1, 0, 4, 1, 1, 1, 3])
        self.assertEqual(answers([0, 2, 5, 5, 6, 7]), [1, 0, 4, 1, 1, 1, 3, 2, 1, 1])
        self.assertEqual(answers([0, 3, 5, 5, 5, 8, 2, 1, 1, 4]), [1, 0, 3, 2, 3, 11, 1, 3])
        self.assertEqual(answers([0, 2, 5, 5, 1, 2, 1, 1, 2, 1, 9, 3, 0, 1, 8, 0]),
                         [1, 0, 1, 1, 1, 2, 1, 5, 1, 2, 1, -22])

    def test_number_by_number_of_the_calls_from_place_on(self):
        # Of 1/2 each one place brings 1/3, two bring 2/5; 6 tenths and 5 bring 3/8 (see test_gain).
        self.assertEqual(answers([0, 2, 5, 5, 9, 1, 1]), [1, 0, 1, 0])
        self.assertEqual(answers([0, 2, 5, 5, 10]), [1, 0, 3, 0, 1, 15])
        self.assertEqual(answers([0, 2, 5, 5, 11, 2, 5]), [1, 0, 2, 2, 2])
        self.assertEqual(answers([0, 2, 5, 5, 12, 1, 2]), [1, 0, 5, 2, 0, 1, 2, 5])
        self.assertEqual(answers([0, 2, 5, 5, 13]), [1, 0, 4, 1, 1, 1, 3])
        self.assertEqual(answers([0, 2, 5, 6, 14]), [1, 0, 1, 5])
        self.assertEqual(answers([0, 2, 5, 5, 15, 1]), [1, 0, 3, 0, 1, 24])
        self.assertEqual(answers([0, 2, 5, 5, 16]), [1, 0, 3, 0, 1, 24])
        self.assertEqual(answers([0, 2, 5, 6, 17]), [1, 0, 3, 1, 5, 6])
        self.assertEqual(answers([0, 2, 9, 9, 16, 15, 0, 15, 2, 11, 1, 1, 1, 8, 10]),
                         [1, 0, 1, -6, 1, -17, 1, -2, 1, -33, 1, 1, 1, -28])

    def test_as_the_readme_shows(self):
        got = answers([0, 3, 5, 5, 5, 1, 3, 5, 8, 2, 2, 2, 11, 3, 10, 17])
        first = told(reckoned((5, 5, 5), (1, 2)))
        second = told(reckoned((5, 5, 5), (2, 2)))
        self.assertEqual(got, [1, 0, 1, 2, 5, 2, 1, 2, *first, 3, 4, *second, 3, 3, 1, 2, 4, 3, 5, 5, 5])

    def test_a_row_is_passed_over_as_long_as_it_is(self):
        # Numbers in a row that look like calls are none.
        for many in range(7):
            for number in (8, 9, 12):
                got = answers([0, many] + [0] * many + [0, 2, 5, 5, number, many] + [0] * many + [4])
                self.assertEqual(got, [1, -22, 1, 0, 1, -22, 1, 2])

    def test_every_call_is_among_many(self):
        self.assertEqual({one[0] for one in MANY}, set(range(len(NAMES))))

    def test_rows_of_calls_that_are_not_begun(self):
        got = answers([8, 2, 0, 2, 9, 1, 0, 12, 3, 0, 2, 5, 11, 0, 2, 15, 0, 10, 13, 14, 16, 17, 2, 0, 2, 1, 0, 4])
        self.assertEqual(got, [1, -11] * 13)

    def test_a_list_of_plain_whole_numbers(self):
        got = answers(joined(MANY))
        self.assertIs(type(got), list)
        self.assertEqual({type(number) for number in got}, {int})


class FourHundredCalls(unittest.TestCase):
    """Seconds are of this process alone, and far above what is needed."""

    def timed(self, calls, seconds):
        self.assertEqual(len(calls), 400)
        before = process_time()
        got = ask(*calls)
        self.assertLess(process_time() - before, seconds)
        return got

    def test_changes_and_bests(self):
        calls = [call("begin", 4, 6, 3, 8), call("total", 6)]
        while len(calls) < 400:
            calls.append(call("chance", len(calls) % 4, len(calls) % 9 + 1))
            calls.append(call("best"))
        got = self.timed(calls, 30)
        self.assertEqual({len(one) for one in got[3::2]}, {6})

    def test_the_same_call(self):
        asked = [call("best"), call("order", 2, 2, 2), call("need", 1, 1), call("neck"), call("worth"), call("state")]
        for one in asked:
            got = self.timed([call("begin", 4, 6, 3, 8), call("total", 6)] + [one] * 398, 30)
            self.assertEqual(got[2:], got[2:3] * 398, one)

    def test_all_refused(self):
        self.assertEqual(self.timed([call("state")] * 400, 5), [[-11]] * 400)
        self.assertEqual(self.timed([call("begin", *[LARGEST] * 6)] * 400, 5), [[-22]] * 400)

    def test_orders_of_many_lines_by_the_largest_ways(self):
        ways = [way for total in (5, 6, 7) for way in ways_by_trial(3, total)
                if (way[0] + 1) * (way[1] + 1) * (way[2] + 1) >= 24]
        calls = []
        for chances in combinations(range(1, 10), 4):
            calls.append(call("begin", *chances))
            calls.extend([call("order", *way) for way in ways[:7]])
        got = self.timed(calls[:400], 60)
        self.assertEqual({len(one) for one in got}, {1, 7})

    def test_what_asks_for_all_room_of_many_lines(self):
        calls = []
        for chances in list(product(range(1, 10), repeat=4))[::41]:
            calls.extend([call("begin", *chances), call("total", 6), call("need", 1, 1), call("neck"), call("turned")])
        got = self.timed(calls[:400], 60)
        self.assertEqual(got[2::5], [[-33]] * 80)


class Kept(unittest.TestCase):
    def test_what_is_handed_in_stays(self):
        calls = joined(MANY)
        before = list(calls)
        answers(calls)
        self.assertEqual(calls, before)

    def test_what_is_handed_in_is_not_changed_for_a_while_either(self):
        class Guarded(list):
            def refuse(self, *given):
                raise AssertionError("changed")

            append = extend = insert = pop = remove = clear = sort = reverse = refuse
            __setitem__ = __delitem__ = __iadd__ = __imul__ = refuse

        self.assertEqual(answers(Guarded(joined(MANY))), answers(joined(MANY)))

    def test_the_same_twice(self):
        self.assertEqual(answers(joined(MANY)), answers(joined(MANY)))

    def test_nothing_is_kept_from_one_time_to_the_next(self):
        answers([0, 3, 5, 5, 5, 1, 7])
        self.assertEqual(answers([5, 4, 1, 7]), [1, -11] * 3)
        self.assertEqual(answers([0, 3, 5, 5, 5, 1, 3]), [1, 0, 1, 2])

    def test_what_is_given_back_is_the_callers(self):
        got = answers(joined(MANY))
        copied = list(got)
        got.clear()
        self.assertEqual(answers(joined(MANY)), copied)


class Refused(unittest.TestCase):
    def test_changes_nothing_that_later_calls_show(self):
        first = [call("begin", 3, 9, 4), call("total", 8)]
        later = [
            call("state"), call("best"), call("worst"), call("ways"), call("of", 1, 1), call("place", 4, 4),
            call("turned"), call("order", 1, 2), call("need", 1, 5), call("bound"), call("gain", 0), call("neck"),
            call("total", 4), call("worth"), call("chance", 0, 7), call("chance", 1, 7), call("chance", 2, 8),
            call("swap", 0, 2), call("turn"), call("best"), call("state"),
        ]
        wanted = ask(*first, *later)[2:]
        for refused in REFUSED:
            got = ask(*first, refused, *later)
            self.assertEqual(len(got[2]), 1, refused)
            self.assertLess(got[2][0], 0, refused)
            self.assertEqual(got[3:], wanted, refused)

    def test_which_one(self):
        got = ask(call("begin", 3, 9, 4), call("total", 8), *REFUSED)[2:]
        self.assertEqual(got, [[number] for number in REFUSED_BY])

    def test_of_several_the_one_told_first(self):
        # No such machine, though its chance would be out of range; out of range, though never reached.
        got = ask(call("begin", 9, 9), call("chance", 2, 0), call("gain", 2), call("need", 1001, 1001),
                  call("need", 1, 0), call("swap", 2, 2), call("swap", 0, 2))
        self.assertEqual(got[1:], [[-2], [-2], [-22], [-22], [-2], [-2]])

    def test_not_begun_ahead_of_all(self):
        self.assertEqual(ask(*REFUSED[9:]), [[-11]] * len(REFUSED[9:]))

    def test_first_number_of_all_else_is_0_or_more(self):
        for answer in split_answers(answers(joined(MANY)))[1:]:
            self.assertGreaterEqual(answer[0], 0)


if __name__ == "__main__":
    unittest.main()
