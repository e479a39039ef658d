"""The ranges of all plain arguments, and -1 ahead of -3 ahead of all else."""

import unittest

from tests.helper import FAR, ask, new, passed, sit

ROUND, TABLE, BOARD, PAIR = (1, 40), (1, 20), (1, 40), (1, 40)
PLACE = [ROUND, TABLE, BOARD]

# For each call the ranges of its plain arguments, and its row.
FORMS = {
    1: ([ROUND, TABLE, PAIR, PAIR, BOARD, (1, 40)], []),
    2: ([ROUND, TABLE], []),
    3: (PLACE, [2, 1, 50]),
    4: (PLACE + [(1, 7), (0, 4), (0, 2), (0, 3), (0, 13)], []),
    5: (PLACE, []),
    6: (PLACE + [(0, 100), (0, 100)], []),
    7: (PLACE + [(0, 9)], []),
    8: (PLACE, []),
    9: ([PAIR, (-100000, 100000)], []),
    10: (PLACE, []),
    11: (PLACE, [2, 1, 50]),
    12: ([PAIR], []),
    15: ([(1, 50)], []),
    16: ([BOARD, PAIR], []),
    17: ([BOARD], []),
    18: ([PAIR, PAIR], []),
    19: ([PAIR], []),
}


def with_number(number, at, value):
    """The call with the first number of each range, but for one argument."""
    ranges, row = FORMS[number]
    plain = [low for low, high in ranges]
    plain[at] = value
    return [number] + plain + row


def arguments():
    for number, (ranges, row) in FORMS.items():
        for at, (low, high) in enumerate(ranges):
            yield number, at, low, high


class Ranges(unittest.TestCase):
    def test_first_and_last_are_within(self):
        for number, at, low, high in arguments():
            for value in (low, low + 1, high - 1, high):
                call = with_number(number, at, value)
                self.assertEqual(ask(call), [[-3]], call)
                self.assertNotEqual(ask(new(), sit(1, 1, 1, 2, 1, 40), call)[2], [-1], call)

    def test_just_outside_and_far_outside(self):
        for number, at, low, high in arguments():
            for value in (-FAR, low - 1, high + 1, FAR):
                call = with_number(number, at, value)
                self.assertEqual(ask(call), [[-1]], call)
                self.assertEqual(ask(new(2, 1), call)[1], [-1], call)
                self.assertEqual(ask(new(), sit(1, 1, 1, 2), passed(1, 1, 1), call)[3], [-1], call)
                appealed = [new(), sit(1, 1, 1, 2), passed(1, 1, 1), [10, 1, 1, 1]]
                self.assertEqual(ask(*appealed, call)[4], [-1], call)

    def test_arguments_that_are_taken_at_the_edges(self):
        seated = [new(), sit(1, 1, 1, 2), passed(1, 1, 1)]
        for number in (3, 4, 6, 7, 9):
            ranges, row = FORMS[number]
            for at in range(1 if number == 9 else 3, len(ranges)):
                for value in ranges[at]:
                    call = with_number(number, at, value)
                    self.assertEqual(ask(*seated, call)[3][0], 0, call)

    def test_calls_without_arguments(self):
        for number in (13, 14, 20, 21, 22):
            self.assertEqual(ask([number], [number], new(), [number])[:3], [[-3], [-3], [0]])
            self.assertEqual(ask(new(), [number])[1][0], 0)

    def test_arguments_that_are_asked_at_the_edges(self):
        seated = [new(), sit(1, 1, 1, 2, 1, 40), sit(2, 2, 39, 40, 1, 40), passed(1, 1, 1), passed(2, 2, 40)]
        for number in (12, 17, 18, 19):
            for at in range(len(FORMS[number][0])):
                for value in (1, 40):
                    call = with_number(number, at, value)
                    self.assertEqual(ask(*seated, call)[5][0], 0, call)
        self.assertEqual(ask(*seated, [16, 1, 1], [16, 40, 40])[5:], [[0, 0, 1], [0, 0, 1]])
        self.assertEqual(ask(new(), *[[14]] * 50, [15, 1], [15, 50])[51:], [[0], [0]])

    def test_out_of_range_is_no_event(self):
        for number, at, low, high in arguments():
            told = ask(with_number(number, at, high + 1), with_number(number, at, low), new())
            self.assertEqual(told, [[-1], [-3], [0]])


if __name__ == "__main__":
    unittest.main()
