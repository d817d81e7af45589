"""How calls are handed in, and what is given back."""

import unittest

from roombetween.room import answers
from tests.helper import LARGEST, ask, call, joined, reckoned, split_answers, told

MANY = [
    call("best"), call("begin", 3, 6, 4), call("total", 5), call("best"), call("chance", 0, 7), call("worst"),
    call("swap", 1, 2), call("ways"), call("turn"), call("of", 2, 3), call("best"), call("begin", 5, 5), call("best"),
]

REFUSED = [
    call("begin"), call("begin", 5), call("begin", 5, 10), call("begin", 1, 2, 3, 4, 5), call("begin", *[LARGEST] * 6),
    call("total", 1), call("total", 9), call("total", 10), call("total", LARGEST),
    call("chance", 3, 5), call("chance", 0, 0), call("chance", 0, 10), call("chance", LARGEST, LARGEST),
    call("swap", 0, 3), call("swap", 3, 0), call("swap", LARGEST, LARGEST),
    call("of"), call("of", 1), call("of", 1, 0), call("of", 5, 4), call("of", 1, 1, 1), call("of", *[LARGEST] * 6),
]


class Form(unittest.TestCase):
    def test_number_by_number(self):
        self.assertEqual(answers([5]), [1, -11])
        self.assertEqual(answers([0, 2, 5, 5]), [1, 0])
        self.assertEqual(answers([0, 2, 5, 5, 5]), [1, 0, 4, 1, 1, 1, 3])
        self.assertEqual(answers([0, 2, 5, 5, 6, 7]), [1, 0, 4, 1, 1, 1, 3, 2, 1, 1])
        self.assertEqual(answers([0, 3, 5, 5, 5, 8, 2, 1, 1, 4]), [1, 0, 3, 2, 3, 11, 1, 3])
        self.assertEqual(answers([0, 2, 5, 5, 1, 2, 1, 1, 2, 1, 9, 3, 0, 1, 8, 0]), [1, 0, 1, 1, 1, 2, 1, 5, 1, 2, 1, -22])

    def test_as_the_readme_shows(self):
        got = answers([0, 3, 5, 5, 5, 1, 3, 5, 8, 2, 2, 2])
        first = told(reckoned((5, 5, 5), (1, 2)))
        second = told(reckoned((5, 5, 5), (2, 2)))
        self.assertEqual(got, [1, 0, 1, 2, 5, 2, 1, 2, *first, 3, 4, *second])

    def test_a_row_is_passed_over_as_long_as_it_is(self):
        # Numbers in a row that look like calls are none.
        for many in range(7):
            got = answers([0, many] + [0] * many + [0, 2, 5, 5, 8, many] + [0] * many + [4])
            self.assertEqual(got, [1, -22, 1, 0, 1, -22, 1, 2])

    def test_rows_of_calls_that_are_not_begun(self):
        got = answers([8, 2, 0, 2, 9, 1, 0, 12, 3, 0, 2, 5, 11, 0, 2, 15, 0, 10, 13, 14, 16, 17, 2, 0, 2, 1, 0, 4])
        self.assertEqual(got, [1, -11] * 13)

    def test_a_list_of_plain_whole_numbers(self):
        got = answers(joined(MANY))
        self.assertIs(type(got), list)
        self.assertEqual({type(number) for number in got}, {int})

    def test_four_hundred_calls(self):
        calls = [call("begin", 4, 6, 3, 8), call("total", 6)]
        while len(calls) < 400:
            calls.append(call("chance", len(calls) % 4, len(calls) % 9 + 1))
            calls.append(call("best"))
        got = ask(*calls)
        self.assertEqual(len(got), 400)
        self.assertEqual({len(one) for one in got[3::2]}, {6})


class Kept(unittest.TestCase):
    def test_what_is_handed_in_stays(self):
        calls = joined(MANY)
        before = list(calls)
        answers(calls)
        self.assertEqual(calls, before)

    def test_what_is_handed_in_is_not_changed_for_a_while_either(self):
        class Guarded(list):
            def refuse(self, *given):
                raise AssertionError("changed")

            append = extend = insert = pop = remove = clear = sort = reverse = refuse
            __setitem__ = __delitem__ = __iadd__ = __imul__ = refuse

        self.assertEqual(answers(Guarded(joined(MANY))), answers(joined(MANY)))

    def test_the_same_twice(self):
        self.assertEqual(answers(joined(MANY)), answers(joined(MANY)))

    def test_nothing_is_kept_from_one_time_to_the_next(self):
        answers([0, 3, 5, 5, 5, 1, 7])
        self.assertEqual(answers([5, 4, 1, 7]), [1, -11] * 3)
        self.assertEqual(answers([0, 3, 5, 5, 5, 1, 3]), [1, 0, 1, 2])

    def test_what_is_given_back_is_the_callers(self):
        got = answers(joined(MANY))
        copied = list(got)
        got.clear()
        self.assertEqual(answers(joined(MANY)), copied)


class Refused(unittest.TestCase):
    def test_changes_nothing_that_later_calls_show(self):
        first = [call("begin", 3, 6, 4), call("total", 5)]
        later = [
            call("best"), call("worst"), call("ways"), call("of", 1, 1), call("total", 4), call("chance", 0, 7),
            call("chance", 1, 7), call("chance", 2, 8), call("swap", 0, 2), call("turn"), call("best"),
        ]
        wanted = ask(*first, *later)[2:]
        for refused in REFUSED:
            got = ask(*first, refused, *later)
            self.assertEqual(len(got[2]), 1, refused)
            self.assertLess(got[2][0], 0, refused)
            self.assertEqual(got[3:], wanted, refused)

    def test_which_one(self):
        got = ask(call("begin", 3, 6, 4), *REFUSED)[1:]
        self.assertEqual(got, [[-22]] * 9 + [[-2], [-22], [-22], [-2]] + [[-2]] * 3 + [[-22]] * 6)

    def test_first_number_of_all_else_is_0_or_more(self):
        for answer in split_answers(answers(joined(MANY)))[1:]:
            self.assertGreaterEqual(answer[0], 0)


if __name__ == "__main__":
    unittest.main()
