"""Whatever is asked is answered as a fresh reckoning by the tests themselves does."""

import random
import unittest

from tests.draw import drawn_line, drawn_mitchell
from tests.helper import FAR, adjust, appeal, ask, asks, average, foul, mitchell, new, passed, played, post, remove
from tests.helper import result, ruling, standings, unsit
from tests.model import model_answers

# Three tables, pairs 1 to 3 north and south, 4 to 6 east and west; boards 1 and 2 in round 1, 3 and 4 in round 2.
SEATED = [new(7, 5)] + mitchell(3, 2, 2)

# Each call that changes something, on boards with and without other entries, and a posting now and then.
STORY = [
    result(1, 1, 1, [1, 420]),
    result(1, 2, 1, [3, 620, 1, -100]),
    played(1, 3, 1, 4, 3, 0, 0, 10),
    post(),
    passed(1, 1, 2),
    average(1, 2, 2, 60, 45),
    average(1, 3, 1, 55, 40),
    foul(1, 2, 1, 3),
    foul(1, 1, 1, 3),
    adjust(1, -250),
    played(1, 3, 2, 3, 4, 1, 1, 5),
    post(),
    appeal(1, 2, 1),
    ruling(1, 2, 1, [1, 420, 5, -50, 2, 0]),
    appeal(1, 3, 1),
    ruling(1, 3, 1, [7, 420, 4, 50]),
    foul(1, 3, 1, 3),
    remove(1, 1, 1),
    adjust(7, 100000),
    adjust(4, 33),
    result(2, 1, 4, [1, 1, 2, 2, 3, 3, 4, 4]),
    result(2, 3, 4, [4, 1, 3, 2, 2, 3, 1, 4]),
    post(),
    passed(1, 1, 1),
    foul(1, 3, 1, 0),
    adjust(1, 0),
    remove(1, 3, 1),
    remove(1, 2, 1),
]


class AfterEachChange(unittest.TestCase):
    def check(self, calls):
        told = ask(*calls)
        for call, answer, expected in zip(calls, told, model_answers(calls)):
            self.assertEqual(answer, expected, call)
        return told

    def test_story_is_not_refused(self):
        for answer in self.check(SEATED + STORY):
            self.assertEqual(answer[0], 0)

    def test_all_is_asked_behind_each_change(self):
        for k in range(len(STORY) + 1):
            calls = SEATED + STORY[:k] + asks(7, 5)
            self.assertLessEqual(len(calls), 400)
            self.check(calls)

    def test_standings_within_one_line(self):
        calls = list(SEATED)
        for call in STORY:
            calls += [call, *asks(2, 1)[:9], standings()]
        self.assertLessEqual(len(calls), 400)
        self.check(calls)

    def test_asking_changes_nothing(self):
        between = [call for call in asks(2, 1) if call[0] != 18]
        calls = list(SEATED)
        for call in STORY[:15]:
            calls += [call, *between]
        told = ask(*calls, standings())
        self.assertLessEqual(len(calls), 399)
        self.assertEqual(told[-1], ask(*SEATED, *STORY[:15], standings())[-1])

    def test_refused_changes_change_nothing_that_is_asked(self):
        refused = [result(1, 2, 1, [1, 1]), played(1, 2, 1, 1, 0, 0, 0, 7), passed(1, 2, 1), average(1, 2, 1),
                   foul(1, 2, 1, 5), remove(1, 2, 1), appeal(1, 2, 1), ruling(1, 3, 1, [1, 1]), result(1, 3, 1, [1]),
                   average(1, 3, 1, 101, 0), foul(1, 3, 1, 10), adjust(8, 5), adjust(1, -FAR), passed(9, 9, 9),
                   unsit(1, 1), SEATED[1], new(1, 1), ruling(1, 2, 1, [0, 0])]
        before = SEATED + STORY[:13]
        told = self.check(before + refused + asks(7, 5))
        for answer in told[len(before):len(before) + len(refused)]:
            self.assertLess(answer[0], 0)
        self.assertEqual(told[len(before) + len(refused):], ask(*before, *asks(7, 5))[len(before):])


class Drawn(unittest.TestCase):
    def check(self, lines):
        seen = {}
        for calls in lines:
            told = ask(*calls)
            for call, answer, expected in zip(calls, told, model_answers(calls)):
                self.assertEqual(answer, expected, (calls, call))
                seen[call[0], answer[0]] = True
        return seen

    def test_mitchells(self):
        draw = random.Random(5)
        seen = self.check([drawn_mitchell(draw) for k in range(250)])
        for number in range(23):
            if number != 2:
                self.assertIn((number, 0), seen)

    def test_unsteady_seatings(self):
        draw = random.Random(6)
        seen = self.check([drawn_line(draw) for k in range(250)])
        for number in range(23):
            self.assertIn((number, 0), seen)
        for pair in ((12, -5), (15, -1), (15, -15), (16, -10), (16, -5), (16, -13), (17, -10), (18, -1), (19, -5)):
            self.assertIn(pair, seen)


if __name__ == "__main__":
    unittest.main()
