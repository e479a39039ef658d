"""Promises 1 and 2."""

import unittest

from tests.helper import ask, average, last, new, passed, played, remove, result, round_robin, sit, unsit


class Sit(unittest.TestCase):
    def test_is_answered_with_zero(self):
        self.assertEqual(last(new(), sit(1, 1, 1, 2, 1, 3)), [0])

    def test_edges_of_the_ranges(self):
        self.assertEqual(last(new(), sit(40, 20, 40, 39, 40, 1)), [0])
        self.assertEqual(last(new(), sit(1, 1, 1, 2, 1, 40)), [0])

    def test_some_board_has_an_entry(self):
        before = [new(), sit(1, 1, 1, 2)]
        for entry in (result(1, 1, 1, [1, 50]), played(1, 1, 1, 1, 0, 0, 0, 7), passed(1, 1, 1), average(1, 1, 1)):
            self.assertEqual(last(*before, entry, sit(2, 2, 3, 4, 2, 1)), [-4])
            self.assertEqual(last(*before, entry, remove(1, 1, 1), sit(2, 2, 3, 4, 2, 1)), [0])

    def test_one_of_two_entries_removed_still_blocks(self):
        before = [new(), sit(1, 1, 1, 2, 1, 2), passed(1, 1, 1), passed(1, 1, 2), remove(1, 1, 1)]
        self.assertEqual(last(*before, sit(2, 2, 3, 4)), [-4])
        self.assertEqual(last(*before, remove(1, 1, 2), sit(2, 2, 3, 4)), [0])

    def test_pairs(self):
        self.assertEqual(last(new(6, 4), sit(1, 1, 3, 3)), [-5])
        self.assertEqual(last(new(6, 4), sit(1, 1, 7, 1)), [-5])
        self.assertEqual(last(new(6, 4), sit(1, 1, 1, 7)), [-5])
        self.assertEqual(last(new(6, 4), sit(1, 1, 7, 7)), [-5])
        self.assertEqual(last(new(6, 4), sit(1, 1, 6, 1)), [0])
        self.assertEqual(last(new(6, 4), sit(1, 1, 1, 6)), [0])

    def test_boards(self):
        self.assertEqual(last(new(6, 10), sit(1, 1, 1, 2, 8, 3)), [0])
        self.assertEqual(last(new(6, 10), sit(1, 1, 1, 2, 8, 4)), [-10])
        self.assertEqual(last(new(6, 10), sit(1, 1, 1, 2, 11, 1)), [-10])
        self.assertEqual(last(new(6, 10), sit(1, 1, 1, 2, 1, 11)), [-10])
        self.assertEqual(last(new(6, 10), sit(1, 1, 1, 2, 40, 40)), [-10])
        self.assertEqual(last(new(6, 40), sit(1, 1, 1, 2, 2, 40)), [-10])

    def test_table_of_the_round_is_taken(self):
        before = [new(), sit(3, 5, 1, 2)]
        self.assertEqual(last(*before, sit(3, 5, 3, 4, 2, 1)), [-6])
        self.assertEqual(last(*before, sit(3, 6, 3, 4, 2, 1)), [0])
        self.assertEqual(last(*before, sit(4, 5, 3, 4, 2, 1)), [0])

    def test_pair_of_the_round_is_taken(self):
        before = [new(), sit(3, 5, 1, 2)]
        for ns, ew in ((1, 3), (3, 1), (2, 3), (3, 2), (1, 2), (2, 1)):
            self.assertEqual(last(*before, sit(3, 6, ns, ew, 2, 1)), [-6])
        for ns, ew in ((1, 3), (3, 1), (2, 3), (3, 2)):
            self.assertEqual(last(*before, sit(4, 6, ns, ew, 2, 1)), [0])

    def test_pair_plays_a_board_elsewhere(self):
        before = [new(), sit(1, 1, 1, 2, 10, 3)]
        for ns, ew in ((1, 3), (3, 1), (2, 3), (3, 2), (1, 2), (2, 1)):
            for first, count in ((10, 1), (11, 1), (12, 1), (8, 3), (12, 5), (9, 10), (10, 3)):
                self.assertEqual(last(*before, sit(2, 1, ns, ew, first, count)), [-7])

    def test_boards_beside_those_of_the_other_sitting(self):
        before = [new(), sit(1, 1, 1, 2, 10, 3)]
        for ns, ew in ((1, 3), (3, 1), (2, 3), (3, 2)):
            for first, count in ((9, 1), (1, 9), (13, 1), (13, 28)):
                self.assertEqual(last(*before, sit(2, 1, ns, ew, first, count)), [0])

    def test_other_pairs_may_play_the_same_boards(self):
        self.assertEqual(last(new(), sit(1, 1, 1, 2, 10, 3), sit(1, 2, 3, 4, 10, 3)), [0])
        self.assertEqual(last(new(), sit(1, 1, 1, 2, 10, 3), sit(2, 1, 3, 4, 10, 3)), [0])

    def test_pairs_have_met(self):
        before = [new(), sit(1, 1, 1, 2, 10, 3)]
        self.assertEqual(last(*before, sit(2, 1, 1, 2, 13, 1)), [-8])
        self.assertEqual(last(*before, sit(2, 1, 2, 1, 13, 1)), [-8])
        self.assertEqual(last(*before, sit(2, 1, 2, 3, 13, 1)), [0])

    def test_each_sitting_ahead_is_looked_at(self):
        before = [new(), sit(1, 1, 1, 2, 1, 1), sit(1, 2, 3, 4, 1, 1), sit(2, 1, 1, 3, 2, 1)]
        self.assertEqual(last(*before, sit(1, 2, 5, 6, 5, 1)), [-6])
        self.assertEqual(last(*before, sit(2, 2, 3, 5, 5, 1)), [-6])
        self.assertEqual(last(*before, sit(3, 1, 4, 5, 1, 1)), [-7])
        self.assertEqual(last(*before, sit(3, 1, 5, 3, 2, 1)), [-7])
        self.assertEqual(last(*before, sit(3, 1, 4, 3, 3, 1)), [-8])
        self.assertEqual(last(*before, sit(3, 1, 3, 1, 3, 1)), [-8])
        self.assertEqual(last(*before, sit(3, 1, 1, 4, 3, 1)), [0])

    def test_first_told_refusal_is_answered(self):
        before = [new(6, 10), sit(1, 1, 1, 2, 1, 2)]
        self.assertEqual(last(*before, passed(1, 1, 1), sit(1, 1, 7, 7, 40, 40)), [-4])
        self.assertEqual(last(*before, sit(1, 1, 7, 7, 40, 40)), [-5])
        self.assertEqual(last(*before, sit(1, 1, 1, 2, 1, 40)), [-10])
        self.assertEqual(last(*before, sit(1, 1, 1, 2, 1, 2)), [-6])
        self.assertEqual(last(*before, sit(1, 2, 2, 1, 1, 2)), [-6])
        self.assertEqual(last(*before, sit(2, 1, 1, 2, 1, 2)), [-7])
        self.assertEqual(last(*before, sit(2, 1, 2, 1, 3, 2)), [-8])

    def test_refused_makes_no_sitting(self):
        before = [new(6, 10), sit(1, 1, 1, 2, 1, 2)]
        refused = [sit(2, 1, 3, 3), sit(2, 1, 3, 4, 10, 2), sit(1, 2, 1, 3, 3, 1), sit(2, 1, 1, 3), sit(2, 1, 2, 1, 3, 1)]
        told = ask(*before, *refused, unsit(2, 1), unsit(1, 2), sit(2, 1, 3, 4, 10, 1))
        self.assertEqual(told, [[0], [0], [-5], [-10], [-6], [-7], [-8], [-11], [-11], [0]])

    def test_399_sittings_behind_new(self):
        told = ask(new(), *round_robin(20)[:399])
        self.assertEqual(told, [[0]] * 400)


class Unsit(unittest.TestCase):
    def test_is_answered_with_zero(self):
        self.assertEqual(last(new(), sit(1, 1, 1, 2), unsit(1, 1)), [0])
        self.assertEqual(last(new(), sit(40, 20, 1, 2), unsit(40, 20)), [0])

    def test_no_sitting(self):
        before = [new(), sit(2, 3, 1, 2)]
        self.assertEqual(last(new(), unsit(1, 1)), [-11])
        self.assertEqual(last(*before, unsit(2, 2)), [-11])
        self.assertEqual(last(*before, unsit(3, 3)), [-11])
        self.assertEqual(last(*before, unsit(3, 2)), [-11])
        self.assertEqual(last(*before, unsit(2, 3), unsit(2, 3)), [-11])

    def test_some_board_has_an_entry(self):
        before = [new(), sit(1, 1, 1, 2), sit(1, 2, 3, 4), passed(1, 1, 1)]
        self.assertEqual(last(*before, unsit(1, 1)), [-4])
        self.assertEqual(last(*before, unsit(1, 2)), [-4])
        self.assertEqual(last(*before, remove(1, 1, 1), unsit(1, 1)), [0])
        self.assertEqual(last(*before, remove(1, 1, 1), unsit(1, 2)), [0])

    def test_entry_comes_ahead_of_no_sitting(self):
        self.assertEqual(last(new(), sit(1, 1, 1, 2), passed(1, 1, 1), unsit(5, 5)), [-4])

    def test_blocks_no_longer(self):
        before = [new(), sit(1, 1, 1, 2, 1, 4)]
        for call, refusal in (
            (sit(1, 1, 3, 4, 9, 1), -6),
            (sit(1, 2, 1, 3, 9, 1), -6),
            (sit(2, 1, 3, 2, 4, 1), -7),
            (sit(2, 1, 2, 1, 9, 1), -8),
        ):
            self.assertEqual(last(*before, call), [refusal])
            self.assertEqual(last(*before, unsit(1, 1), call), [0])

    def test_place_is_no_longer_given(self):
        self.assertEqual(last(new(), sit(1, 1, 1, 2), unsit(1, 1), passed(1, 1, 1)), [-11])

    def test_other_sittings_stay(self):
        before = [new(), sit(1, 1, 1, 2), sit(1, 2, 3, 4), sit(2, 1, 5, 6), unsit(1, 1)]
        self.assertEqual(last(*before, passed(1, 2, 1)), [0])
        self.assertEqual(last(*before, passed(2, 1, 1)), [0])
        self.assertEqual(last(*before, passed(1, 1, 1)), [-11])

    def test_refused_leaves_the_sitting(self):
        told = ask(new(), sit(1, 1, 1, 2), unsit(1, 2), passed(1, 1, 1), unsit(1, 1), passed(1, 1, 1))
        self.assertEqual(told, [[0], [0], [-11], [0], [-4], [0]])


if __name__ == "__main__":
    unittest.main()
