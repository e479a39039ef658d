"""Promise 0."""

import unittest

from tests.helper import FAR, adjust, appeal, ask, last, new, passed, remove, ruling, sit, unsit


class New(unittest.TestCase):
    def test_is_answered_with_zero(self):
        self.assertEqual(ask(new(8, 16)), [[0]])

    def test_edges_of_the_ranges(self):
        for n in (2, 3, 39, 40):
            for b in (1, 2, 39, 40):
                self.assertEqual(ask(new(n, b)), [[0]])

    def test_beyond_the_ranges(self):
        for n in (-FAR, -2, 0, 1, 41, FAR):
            self.assertEqual(ask(new(n, 4)), [[-1]])
        for b in (-FAR, -1, 0, 41, FAR):
            self.assertEqual(ask(new(4, b)), [[-1]])

    def test_number_of_pairs_holds(self):
        self.assertEqual(last(new(5, 4), adjust(5, 1)), [0])
        self.assertEqual(last(new(5, 4), adjust(6, 1)), [-5])
        self.assertEqual(last(new(5, 4), sit(1, 1, 4, 5)), [0])
        self.assertEqual(last(new(5, 4), sit(1, 1, 4, 6)), [-5])

    def test_number_of_boards_holds(self):
        self.assertEqual(last(new(5, 4), sit(1, 1, 1, 2, 4, 1)), [0])
        self.assertEqual(last(new(5, 4), sit(1, 1, 1, 2, 5, 1)), [-10])

    def test_sittings_before_are_gone(self):
        self.assertEqual(last(new(), sit(1, 1, 1, 2), new(), unsit(1, 1)), [-11])
        self.assertEqual(last(new(), sit(1, 1, 1, 2), new(), sit(1, 1, 1, 2)), [0])
        self.assertEqual(last(new(), sit(1, 1, 1, 2), new(), passed(1, 1, 1)), [-11])

    def test_entries_before_are_gone(self):
        before = [new(), sit(1, 1, 1, 2), passed(1, 1, 1)]
        self.assertEqual(last(*before, new(), sit(1, 1, 1, 2)), [0])
        self.assertEqual(last(*before, new(), sit(1, 1, 1, 2), remove(1, 1, 1)), [-13])

    def test_appeals_before_are_gone(self):
        before = [new(), sit(1, 1, 1, 2), passed(1, 1, 1), appeal(1, 1, 1)]
        self.assertEqual(last(*before, new(), sit(1, 1, 1, 2), passed(1, 1, 1)), [0])
        self.assertEqual(last(*before, new(), sit(1, 1, 1, 2), ruling(1, 1, 1, [1, 0])), [-14])

    def test_sizes_before_are_gone(self):
        self.assertEqual(last(new(2, 1), new(40, 40), sit(1, 1, 39, 40, 40, 1)), [0])
        self.assertEqual(last(new(40, 40), new(2, 1), sit(1, 1, 39, 40, 40, 1)), [-5])

    def test_refused_leaves_the_event(self):
        told = ask(new(4, 4), sit(1, 1, 1, 2), new(41, 4), new(4, 0), unsit(1, 1))
        self.assertEqual(told, [[0], [0], [-1], [-1], [0]])

    def test_refused_makes_no_event(self):
        self.assertEqual(ask(new(1, 4), adjust(1, 0)), [[-1], [-3]])


if __name__ == "__main__":
    unittest.main()
