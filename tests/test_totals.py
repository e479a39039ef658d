"""Promise 12: a pair's points, its tops and its percentage."""

import unittest

from tests.helper import FAR, adjust, appeal, ask, average, foul, last, mitchell, new, passed, remove, result, ruling
from tests.helper import sit, standings, total

# Pairs 1 to 4 play board 1 at two tables; pair 5 is there and plays nothing.
SEATED = [new(5, 3), sit(1, 1, 1, 2, 1, 2), sit(1, 2, 3, 4, 1, 2)]


def eight_boards(ns, ew):
    """Pair 1 has these per cents of 16 tops, and pair 2 those."""
    calls = [new(4, 8), sit(1, 1, 1, 2, 1, 8), sit(1, 2, 3, 4, 1, 8)]
    return calls + [average(1, table, board, ns, ew) for table in (1, 2) for board in range(1, 9)]


class Total(unittest.TestCase):
    def check(self, calls, totals):
        for pair, told in enumerate(totals, start=1):
            self.assertEqual(last(*calls, total(pair)), [0, *told], pair)

    def test_nothing_yet(self):
        self.check(SEATED, [(0, 1, 0)] * 5)
        self.assertEqual(last(new(), total(40)), [0, 0, 1, 0])

    def test_without_tops_three_numbers(self):
        self.check([*SEATED, passed(1, 1, 1)], [(0, 1, 0)] * 5)

    def test_with_tops_four_numbers(self):
        self.check([*SEATED, result(1, 1, 1, [1, 420]), passed(1, 2, 1)], [
            (2, 1, 2, 10000), (0, 1, 2, 0), (0, 1, 2, 0), (2, 1, 2, 10000), (0, 1, 0)])

    def test_over_boards(self):
        calls = [*SEATED, result(1, 1, 1, [1, 420]), passed(1, 2, 1), average(1, 1, 2, 60, 35), passed(1, 2, 2)]
        # On board 2 the one real entry is alone and has half the top.
        self.check(calls, [(16, 5, 4, 8000), (7, 10, 4, 1750), (1, 1, 4, 2500), (3, 1, 4, 7500), (0, 1, 0)])

    def test_a_board_without_top_brings_no_tops(self):
        calls = [*SEATED, result(1, 1, 1, [1, 420]), passed(1, 2, 1), passed(1, 1, 2)]
        self.check(calls, [(2, 1, 2, 10000), (0, 1, 2, 0), (0, 1, 2, 0), (2, 1, 2, 10000), (0, 1, 0)])

    def test_tops_are_those_of_the_boards_with_an_entry_of_the_pair(self):
        calls = [new(6, 2), *mitchell(3, 1, 2), passed(1, 1, 1), passed(1, 2, 1), passed(1, 3, 1), passed(1, 1, 2),
                 passed(1, 2, 2)]
        self.check(calls, [(3, 1, 6, 5000), (3, 1, 6, 5000), (2, 1, 4, 5000)] * 2)

    def test_adjusted(self):
        calls = [*SEATED, result(1, 1, 1, [1, 420]), passed(1, 2, 1)]
        self.check([*calls, adjust(1, -50), adjust(2, 33), adjust(3, -1), adjust(5, 250)], [
            (3, 2, 2, 7500), (33, 100, 2, 1650), (-1, 100, 2, -50), (2, 1, 2, 10000), (5, 2, 0)])
        self.check([*calls, adjust(1, -100000), adjust(2, 100000)], [(-998, 1, 2, -4990000), (1000, 1, 2, 5000000)])

    def test_adjusted_without_tops(self):
        for h, told in ((0, (0, 1)), (1, (1, 100)), (-1, (-1, 100)), (50, (1, 2)), (-75, (-3, 4)), (100, (1, 1)),
                        (100000, (1000, 1)), (-100000, (-1000, 1)), (99999, (99999, 100))):
            self.assertEqual(last(*SEATED, adjust(1, h), total(1)), [0, *told, 0])

    def test_a_later_adjustment_stands_in_the_place_of_the_older_one(self):
        self.assertEqual(last(*SEATED, adjust(1, 70), adjust(1, 30), total(1)), [0, 3, 10, 0])
        self.assertEqual(last(*SEATED, adjust(1, 70), adjust(1, 0), total(1)), [0, 0, 1, 0])
        self.assertEqual(last(*SEATED, adjust(1, 70), adjust(2, 30), total(1)), [0, 7, 10, 0])

    def test_lowest_terms(self):
        calls = [*SEATED, result(1, 1, 1, [1, 100, 2, 0]), result(1, 2, 1, [1, 50]), result(1, 1, 2, [1, 100, 5, 0]),
                 result(1, 2, 2, [1, 50])]
        # 2/3 and 1/3 bring a whole number; 10 hundredths more bring tenths.
        self.assertEqual(last(*calls, total(1)), [0, 1, 1, 4, 2500])
        self.assertEqual(last(*calls, adjust(1, 10), total(1)), [0, 11, 10, 4, 2750])
        self.assertEqual(last(*calls, adjust(1, -100), total(1)), [0, 0, 1, 4, 0])
        self.assertEqual(last(*calls, adjust(1, -150), total(1)), [0, -1, 2, 4, -1250])

    def test_no_such_pair(self):
        self.assertEqual(last(*SEATED, total(6)), [-5])
        self.assertEqual(last(*SEATED, total(40)), [-5])
        self.assertEqual(ask(total(1), total(41), total(0), total(FAR), total(-FAR)), [[-3], [-1], [-1], [-1], [-1]])
        self.assertEqual(last(*SEATED, total(41)), [-1])

    def test_after_each_change(self):
        calls = [*SEATED, result(1, 1, 1, [1, 420]), passed(1, 2, 1)]
        for behind, told in (
            ([result(1, 1, 1, [1, -50])], [0, 0, 1, 2, 0]),
            ([passed(1, 1, 1)], [0, 1, 1, 2, 5000]),
            ([average(1, 1, 1, 60, 40)], [0, 6, 5, 2, 6000]),
            ([average(1, 2, 1, 60, 40)], [0, 1, 1, 2, 5000]),
            ([foul(1, 2, 1, 1)], [0, 1, 1, 2, 5000]),
            ([foul(1, 2, 1, 1), foul(1, 1, 1, 1)], [0, 2, 1, 2, 10000]),
            ([remove(1, 2, 1)], [0, 0, 1, 0]),
            ([remove(1, 1, 1)], [0, 0, 1, 0]),
            ([remove(1, 1, 1), adjust(1, 5)], [0, 1, 20, 0]),
            ([appeal(1, 1, 1)], [0, 2, 1, 2, 10000]),
            ([appeal(1, 1, 1), ruling(1, 1, 1, [1, 420, 3, -50])], [0, 1, 2, 2, 2500]),
            ([appeal(1, 2, 1), ruling(1, 2, 1, [1, 430, 3, -50])], [0, 3, 2, 2, 7500]),
        ):
            self.assertEqual(last(*calls, *behind, total(1)), told, behind)

    def test_a_new_event_clears_it(self):
        calls = [*SEATED, result(1, 1, 1, [1, 420]), passed(1, 2, 1), adjust(1, 5)]
        self.assertEqual(last(*calls, new(5, 3), total(1)), [0, 0, 1, 0])
        self.assertEqual(last(*calls, *SEATED, passed(1, 1, 1), passed(1, 2, 1), total(1)), [0, 1, 1, 2, 5000])


class Percentage(unittest.TestCase):
    def check(self, calls, pair, percentage):
        self.assertEqual(last(*calls, total(pair))[4], percentage)
        told = last(*calls, standings())[1:]
        self.assertEqual(dict(zip(told[1::3], told[2::3]))[pair], percentage)

    def test_just_on_a_half(self):
        # A hundredth of a matchpoint is 6.25 hundredths of a per cent of 16 tops.
        for h, percentage in ((2, 13), (6, 38), (-2, -12), (-6, -37), (-10, -62), (10, 63)):
            self.check([*eight_boards(0, 0), adjust(1, h)], 1, percentage)

    def test_beside_a_half(self):
        for h, percentage in ((0, 0), (1, 6), (3, 19), (-1, -6), (-3, -19), (5, 31), (-5, -31)):
            self.check([*eight_boards(0, 0), adjust(1, h)], 1, percentage)

    def test_above_the_whole(self):
        self.check(eight_boards(100, 0), 1, 10000)
        self.check([*eight_boards(100, 0), adjust(1, 2)], 1, 10013)
        self.check([*eight_boards(100, 0), adjust(1, -2)], 1, 9988)
        self.check([*eight_boards(100, 0), adjust(1, 100000)], 1, 635000)

    def test_far_below_nothing(self):
        self.check([*eight_boards(0, 100), adjust(1, -99998)], 1, -624987)
        self.check([*eight_boards(0, 100), adjust(1, -100000)], 1, -625000)

    def test_halves_from_weights(self):
        calls = [*SEATED, result(1, 1, 1, [1, 100, 31, 0]), result(1, 2, 1, [1, 50])]
        for pair, percentage in ((1, 313), (2, 9688), (3, 9688), (4, 313)):
            self.check(calls, pair, percentage)

    def test_thirds(self):
        calls = [*SEATED, result(1, 1, 1, [1, 100, 2, 0]), result(1, 2, 1, [1, 50])]
        for pair, percentage in ((1, 3333), (2, 6667), (3, 6667), (4, 3333)):
            self.check(calls, pair, percentage)
        self.check([*calls, adjust(1, -200)], 1, -6667)


if __name__ == "__main__":
    unittest.main()
