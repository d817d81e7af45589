"""Lists of all calls in any order, each answer held against the second line's."""

import random
import unittest

from tests.helper import LARGEST, NAMES, ask, call
from tests.second import SecondLine

# Four machines are asked with few fillings, as the second line reckons slowly.
WAYS = {
    2: [(held,) for held in range(1, 9)],
    3: [(1, 1), (1, 2), (2, 1), (2, 2), (1, 3), (3, 1), (8, 2), (1, 7)],
    4: [(1, 1, 1), (1, 1, 2), (1, 2, 1), (2, 1, 1), (1, 2, 2), (1, 3, 1)],
}
TOTALS = {2: range(1, 9), 3: range(2, 9), 4: range(3, 5)}
WRONG = (0, 9, 10, 11, LARGEST)


def wrong_row(draw):
    return tuple(draw.choice((0, 1, 2, 3, 8, 9, LARGEST)) for at in range(draw.randrange(7)))


def draw_given(draw, name, machines):
    """What a call is handed in: mostly as told, at times not."""
    wrong = draw.random() < 0.15
    if name == "begin":
        return wrong_row(draw) if wrong else tuple(draw.randint(1, 9) for at in range(machines))
    if name in ("of", "place", "order"):
        return wrong_row(draw) if wrong else draw.choice(WAYS[machines])
    if name == "total":
        return (draw.choice(WRONG[:1] + WRONG[2:]) if wrong else draw.choice(TOTALS[machines]),)
    if name == "chance":
        return (draw.randrange(5), draw.choice(WRONG) if wrong else draw.randint(1, 9))
    if name == "swap":
        return (draw.randrange(5 if wrong else machines), draw.randrange(5 if wrong else machines))
    if name == "need":
        below = draw.choice((0, 1, 1001, LARGEST)) if wrong else draw.randint(1, 1000)
        return (draw.randrange(below // 2 + 2), below)
    if name == "gain":
        return (draw.randrange(5),)
    return ()


def draw_calls(draw, machines, many, names=NAMES):
    calls = [(name, draw_given(draw, name, machines)) for name in draw.choices(names, k=many)]
    calls.insert(draw.randrange(4), ("begin", draw_given(draw, "begin", machines)))
    return calls


class AgainstTheSecondLine(unittest.TestCase):
    def check(self, calls):
        line = SecondLine()
        got = ask(*[call(name, *given) for name, given in calls])
        for at, (name, given) in enumerate(calls):
            self.assertEqual(got[at], line.answer(name, *given), calls[:at + 1])

    def test_two_machines(self):
        draw = random.Random(2)
        for many in (10, 40, 80, 399):
            self.check(draw_calls(draw, 2, many))

    def test_three_machines(self):
        draw = random.Random(3)
        for many in (10, 20, 40, 40, 40):
            self.check(draw_calls(draw, 3, many))

    def test_four_machines(self):
        # need asks for the best of all room up to 7: it has tests of its own.
        names = [name for name in NAMES if name != "need"]
        draw = random.Random(4)
        for many in (10, 20, 40, 40):
            self.check(draw_calls(draw, 4, many, names))

    def test_now_so_many_machines_now_so_many(self):
        draw = random.Random(5)
        for at in range(20):
            calls = []
            for machines in (3, 2, 3):
                calls.extend(draw_calls(draw, machines, 6))
            self.check(calls)


if __name__ == "__main__":
    unittest.main()
