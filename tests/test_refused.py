"""A refused call changes nothing: without the refused ones a line is answered as with them."""

import random
import unittest

from tests.draw import drawn_line
from tests.helper import ask


class Refused(unittest.TestCase):
    def test_without_the_refused_calls(self):
        draw = random.Random(20)
        seen = {}
        for k in range(300):
            calls = drawn_line(draw)
            told = ask(*calls)
            taken = [call for call, answer in zip(calls, told) if answer[0] == 0]
            self.assertEqual(ask(*taken), [answer for answer in told if answer[0] == 0])
            for answer in told:
                seen[answer[0]] = True
        # The draw is worth nothing unless it meets every refusal that a line has room for, once there is an event.
        self.assertEqual(sorted(seen), [-15, -14, -13, -12, -11, -10, -8, -7, -6, -5, -4, -1, 0])

    def test_each_refused_call_twice(self):
        draw = random.Random(21)
        for k in range(100):
            calls = drawn_line(draw)[:200]
            told = ask(*calls)
            doubled = []
            expected = []
            for call, answer in zip(calls, told):
                times = 1 if answer[0] == 0 else 2
                doubled += [call] * times
                expected += [answer] * times
            self.assertEqual(ask(*doubled), expected)


if __name__ == "__main__":
    unittest.main()
