"""A refused call changes nothing: without the refused ones a line is answered as with them."""

import random
import unittest

from tests.helper import FAR, adjust, appeal, ask, average, foul, new, passed, played, remove, result, ruling, sit, unsit


def drawn_place(draw):
    return draw.randint(1, 3), draw.randint(1, 3), draw.randint(1, 5)


def drawn_outcomes(draw):
    count = draw.choice((1, 1, 1, 2, 3, 4, 4, 5))
    outcomes = [draw.choice((1, 2, 1000)) if k % 2 == 0 else draw.randint(-3, 3) * 100 for k in range(2 * count)]
    return outcomes + draw.choice(([], [], [], [1]))


def drawn_seating(draw):
    which = draw.randint(0, 9)
    if which == 0:
        return new(draw.randint(1, 6), draw.randint(2, 6))
    if which < 3:
        return unsit(draw.randint(1, 3), draw.randint(1, 3))
    return sit(draw.randint(1, 3), draw.randint(1, 3), draw.randint(1, 6), draw.randint(1, 6),
               draw.randint(1, 5), draw.randint(1, 3))


def drawn_on_a_place(draw):
    place = drawn_place(draw)
    return draw.choice((
        result(*place, drawn_outcomes(draw)),
        played(*place, draw.randint(1, 7), draw.randint(0, 4), draw.randint(0, 2), draw.randint(0, 3), draw.randint(0, 14)),
        passed(*place),
        average(*place, draw.randint(0, 101), draw.randint(0, 100)),
        foul(*place, draw.randint(0, 10)),
        remove(*place),
        remove(*place),
        remove(*place),
        adjust(draw.randint(1, 7), draw.choice((5, -FAR))),
        appeal(*place),
        ruling(*place, drawn_outcomes(draw)),
        ruling(*place, drawn_outcomes(draw)),
    ))


def drawn_line(draw):
    seating = [drawn_seating(draw) for k in range(30)]
    return [new(5, 5)] + seating + [
        drawn_seating(draw) if draw.random() < 0.2 else drawn_on_a_place(draw) for k in range(200)]


class Refused(unittest.TestCase):
    def test_without_the_refused_calls(self):
        draw = random.Random(20)
        seen = {}
        for k in range(300):
            calls = drawn_line(draw)
            told = ask(*calls)
            taken = [call for call, answer in zip(calls, told) if answer[0] == 0]
            self.assertEqual(ask(*taken), [answer for answer in told if answer[0] == 0])
            for answer in told:
                seen[answer[0]] = True
        # The draw is worth nothing unless it meets every refusal that a line has room for, once there is an event.
        self.assertEqual(sorted(seen), [-14, -13, -12, -11, -10, -8, -7, -6, -5, -4, -1, 0])

    def test_each_refused_call_twice(self):
        draw = random.Random(21)
        for k in range(100):
            calls = drawn_line(draw)[:200]
            told = ask(*calls)
            doubled = []
            expected = []
            for call, answer in zip(calls, told):
                times = 1 if answer[0] == 0 else 2
                doubled += [call] * times
                expected += [answer] * times
            self.assertEqual(ask(*doubled), expected)


if __name__ == "__main__":
    unittest.main()
