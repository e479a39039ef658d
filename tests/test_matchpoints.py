"""Promises 16 and 17: the matchpoints on a board's sheet, for both sides."""

import unittest

from tests.helper import FAR, adjust, appeal, ask, average, foul, last, mitchell, new, passed, played, remove, result
from tests.helper import ruling, score, sheet, sit


def tables(count):
    """At table t pair t sits against pair 10 + t; all play boards 1 and 2 in round 1."""
    return [new(20, 3)] + [sit(1, t, t, 10 + t, 1, 2) for t in range(1, count + 1)]


def entered(*results):
    """Board 1 with one result a table, from the first table on; one number is a score, a list outcomes."""
    calls = tables(len(results))
    for table, told in enumerate(results, start=1):
        calls.append(result(1, table, 1, told if isinstance(told, list) else [1, told]))
    return calls


class Sheets(unittest.TestCase):
    def check(self, calls, rows):
        """rows: for each entry its group and the fractions of both sides."""
        told = [0]
        for table, (group, ns, ew) in enumerate(rows, start=1):
            told += [table, 10 + table, group, *ns]
            self.assertEqual(last(*calls, score(1, table)), [0, *ns], table)
            self.assertEqual(last(*calls, score(1, 10 + table)), [0, *ew], table)
        self.assertEqual(last(*calls, sheet(1)), told)

    def test_one_entry(self):
        for call in (passed(1, 1, 1), result(1, 1, 1, [3, -20000, 7, 20000]), average(1, 1, 1, 100, 100)):
            self.check([*tables(3), call], [(0, (0, 1), (0, 1))])

    def test_two_entries(self):
        self.check(entered(420, 50), [(0, (2, 1), (0, 1)), (0, (0, 1), (2, 1))])
        self.check(entered(-50, 420), [(0, (0, 1), (2, 1)), (0, (2, 1), (0, 1))])
        self.check(entered(-50, -50), [(0, (1, 1), (1, 1)), (0, (1, 1), (1, 1))])

    def test_several_entries_of_one_group(self):
        self.check(entered(420, 50, 420, -100), [
            (0, (5, 1), (1, 1)), (0, (2, 1), (4, 1)), (0, (5, 1), (1, 1)), (0, (0, 1), (6, 1))])

    def test_scores_that_lie_close(self):
        self.check(entered(0, -1, 1), [(0, (2, 1), (2, 1)), (0, (0, 1), (4, 1)), (0, (4, 1), (0, 1))])
        self.check(entered(20000, -20000, 19999), [(0, (4, 1), (0, 1)), (0, (0, 1), (4, 1)), (0, (2, 1), (2, 1))])

    def test_a_group_with_one_entry_alone_has_half_the_top(self):
        self.check([*entered(420, 50, -100, 0), foul(1, 2, 1, 9)], [
            (0, (17, 3), (1, 3)), (9, (3, 1), (3, 1)), (0, (1, 3), (17, 3)), (0, (3, 1), (3, 1))])

    def test_entries_of_different_groups(self):
        calls = [*entered(420, 50, -100, 0, 50), foul(1, 2, 1, 1), foul(1, 5, 1, 1)]
        # N is 5, the top 8: three of group 0 and two equal ones of group 1.
        self.check(calls, [(0, (22, 3), (2, 3)), (1, (4, 1), (4, 1)), (0, (2, 3), (22, 3)), (0, (4, 1), (4, 1)),
                           (1, (4, 1), (4, 1))])
        self.check([*calls, foul(1, 5, 1, 2)], [
            (0, (22, 3), (2, 3)), (1, (4, 1), (4, 1)), (0, (2, 3), (22, 3)), (0, (4, 1), (4, 1)), (2, (4, 1), (4, 1))])
        self.check([*calls, result(1, 5, 1, [1, 51])], [
            (0, (22, 3), (2, 3)), (1, (3, 2), (13, 2)), (0, (2, 3), (22, 3)), (0, (4, 1), (4, 1)),
            (1, (13, 2), (3, 2))])

    def test_group_number_itself_does_not_matter(self):
        calls = [*entered(420, 50), foul(1, 1, 1, 7), foul(1, 2, 1, 7)]
        self.check(calls, [(7, (2, 1), (0, 1)), (7, (0, 1), (2, 1))])

    def test_two_groups_of_unlike_size(self):
        calls = [*entered(10, 20, 30, 30, 30), *[foul(1, t, 1, 1) for t in (3, 4, 5)]]
        self.check(calls, [(0, (3, 2), (13, 2)), (0, (13, 2), (3, 2)), (1, (4, 1), (4, 1)), (1, (4, 1), (4, 1)),
                           (1, (4, 1), (4, 1))])

    def test_artificial_among_real_ones(self):
        calls = [*entered(420, 50, 0), average(1, 3, 1, 60, 40)]
        # N is 3, the top 4; the two real ones are compared with one another alone.
        self.check(calls, [(0, (7, 2), (1, 2)), (0, (1, 2), (7, 2)), (0, (12, 5), (8, 5))])

    def test_both_sides_of_an_artificial_one_by_themselves(self):
        calls = entered(420, 50, 0)
        for ns, ew, ns_points, ew_points in (
            (60, 60, (12, 5), (12, 5)), (0, 0, (0, 1), (0, 1)), (100, 0, (4, 1), (0, 1)), (0, 100, (0, 1), (4, 1)),
            (1, 99, (1, 25), (99, 25)), (50, 25, (2, 1), (1, 1)),
        ):
            self.check([*calls, average(1, 3, 1, ns, ew)],
                       [(0, (7, 2), (1, 2)), (0, (1, 2), (7, 2)), (0, ns_points, ew_points)])

    def test_artificial_ones_alone(self):
        self.check([*tables(2), average(1, 1, 1, 60, 40), average(1, 2, 1, 33, 7)],
                   [(0, (6, 5), (4, 5)), (0, (33, 50), (7, 50))])

    def test_artificial_keeps_its_group_but_is_not_compared(self):
        calls = [*entered(420, 50, 0), foul(1, 1, 1, 4), foul(1, 2, 1, 4), foul(1, 3, 1, 4), average(1, 2, 1, 60, 40)]
        self.check(calls, [(4, (7, 2), (1, 2)), (4, (12, 5), (8, 5)), (4, (1, 2), (7, 2))])
        # Behind the artificial one there's a real one again, and the group is still the older one's.
        self.check([*calls, result(1, 2, 1, [1, 50])], [(4, (4, 1), (0, 1)), (4, (2, 1), (2, 1)), (4, (0, 1), (4, 1))])
        self.check([*calls, foul(1, 2, 1, 0)], [(4, (7, 2), (1, 2)), (0, (12, 5), (8, 5)), (4, (1, 2), (7, 2))])

    def test_outcomes_with_unlike_weights(self):
        self.check(entered([3, 620, 1, -100], 0), [(0, (3, 2), (1, 2)), (0, (1, 2), (3, 2))])
        self.check(entered([2, 100, 5, 50], [3, 100, 4, 75]), [(0, (22, 49), (76, 49)), (0, (76, 49), (22, 49))])
        self.check(entered([1, 0, 999, 0, 1000, 0, 5, 0], 0), [(0, (1, 1), (1, 1)), (0, (1, 1), (1, 1))])
        self.check(entered([1000, 1, 1, -1, 1, -1, 1, -1], 0), [
            (0, (2000, 1003), (6, 1003)), (0, (6, 1003), (2000, 1003))])

    def test_weights_of_three_results(self):
        # Against one another: the first gets 3/2 and 1/2, the second 1/2 and 0, the third 3/2 and 2.
        self.check(entered([3, 620, 1, -100], 0, [1, 620, 1, 650]), [
            (0, (15, 8), (17, 8)), (0, (1, 2), (7, 2)), (0, (29, 8), (3, 8))])

    def test_a_weight_alone_does_not_matter(self):
        self.check(entered([1000, 420], [1, 50]), [(0, (2, 1), (0, 1)), (0, (0, 1), (2, 1))])

    def test_ruling(self):
        calls = [*entered(420, 50), foul(1, 1, 1, 2), foul(1, 2, 1, 2), appeal(1, 1, 1)]
        self.check(calls, [(2, (2, 1), (0, 1)), (2, (0, 1), (2, 1))])
        self.check([*calls, ruling(1, 1, 1, [1, 420, 2, 50, 3, 0])], [(2, (2, 3), (4, 3)), (2, (4, 3), (2, 3))])
        self.check([*calls[:-1], average(1, 1, 1), appeal(1, 1, 1), ruling(1, 1, 1, [1, 420, 2, 50, 3, 0])],
                   [(2, (2, 3), (4, 3)), (2, (4, 3), (2, 3))])

    def test_played_and_passed(self):
        calls = [*tables(3), played(1, 1, 1, 4, 3, 0, 0, 10), played(1, 2, 1, 4, 3, 0, 1, 10), passed(1, 3, 1)]
        self.check(calls, [(0, (4, 1), (0, 1)), (0, (0, 1), (4, 1)), (0, (2, 1), (2, 1))])

    def test_corrected_and_removed(self):
        calls = entered(420, 50, 0)
        self.check([*calls, result(1, 3, 1, [1, 430])], [(0, (2, 1), (2, 1)), (0, (0, 1), (4, 1)), (0, (4, 1), (0, 1))])
        self.check([*calls, remove(1, 3, 1)], [(0, (2, 1), (0, 1)), (0, (0, 1), (2, 1))])
        self.check([*calls, remove(1, 3, 1), remove(1, 2, 1)], [(0, (0, 1), (0, 1))])
        self.check([*calls, *[remove(1, t, 1) for t in (1, 2, 3)]], [])
        # A removed entry takes its group along.
        self.check([*calls, foul(1, 3, 1, 5), remove(1, 3, 1), passed(1, 3, 1)], [
            (0, (4, 1), (0, 1)), (0, (2, 1), (2, 1)), (0, (0, 1), (4, 1))])

    def test_boards_by_themselves(self):
        calls = [*entered(420, 50), result(1, 1, 2, [1, -7])]
        self.check(calls, [(0, (2, 1), (0, 1)), (0, (0, 1), (2, 1))])
        self.assertEqual(last(*calls, sheet(2)), [0, 1, 11, 0, 0, 1])
        self.assertEqual(last(*calls, sheet(3)), [0])

    def test_adjustments_are_not_on_the_sheet(self):
        self.check([*entered(420, 50), adjust(1, 100), adjust(11, -7)], [(0, (2, 1), (0, 1)), (0, (0, 1), (2, 1))])

    def test_twenty_entries(self):
        calls = [new(40, 1)] + [sit(1, t, t, 20 + t) for t in range(1, 21)]
        calls += [result(1, t, 1, [1, 10 * t]) for t in range(20, 0, -1)]
        expected = [0]
        for t in range(1, 21):
            expected += [t, 20 + t, 0, 2 * (t - 1), 1]
        self.assertEqual(last(*calls, sheet(1)), expected)
        self.assertEqual(last(*calls, score(1, 40)), [0, 0, 1])
        self.assertEqual(last(*calls, score(1, 21)), [0, 38, 1])


class Score(unittest.TestCase):
    CALLS = entered(420, 50)

    def test_no_such_board(self):
        self.assertEqual(last(*self.CALLS, score(4, 1)), [-10])
        self.assertEqual(last(*self.CALLS, score(40, 1)), [-10])
        self.assertEqual(last(new(40, 40), score(40, 40)), [-13])

    def test_no_such_pair(self):
        self.assertEqual(last(*self.CALLS, score(1, 21)), [-5])
        self.assertEqual(last(*self.CALLS, score(3, 40)), [-5])

    def test_brings_nothing(self):
        for board, pair in ((1, 3), (1, 20), (2, 1), (2, 11), (3, 1)):
            self.assertEqual(last(*self.CALLS, score(board, pair)), [-13])
        # Who sits there has nothing of the board before there's an entry, and nothing when it's gone.
        self.assertEqual(last(*tables(2), passed(1, 1, 1), score(1, 2)), [-13])
        self.assertEqual(last(*self.CALLS, remove(1, 2, 1), score(1, 2)), [-13])
        self.assertEqual(last(*self.CALLS, remove(1, 2, 1), score(1, 12)), [-13])

    def test_a_score_of_nothing_is_no_refusal(self):
        self.assertEqual(last(*self.CALLS, score(1, 2)), [0, 0, 1])
        self.assertEqual(last(*tables(2), passed(1, 1, 1), score(1, 1)), [0, 0, 1])

    def test_an_adjustment_brings_no_score(self):
        self.assertEqual(last(*self.CALLS, adjust(3, 100), score(1, 3)), [-13])

    def test_first_told_refusal_is_answered(self):
        self.assertEqual(last(*self.CALLS, score(4, 21)), [-10])
        self.assertEqual(last(*self.CALLS, score(0, 21)), [-1])
        self.assertEqual(last(*self.CALLS, score(4, 41)), [-1])
        self.assertEqual(last(*self.CALLS, score(2, 21)), [-5])
        self.assertEqual(ask(score(40, 40), score(41, 1), score(1, 0)), [[-3], [-1], [-1]])
        self.assertEqual(ask(score(-FAR, 1), score(1, FAR)), [[-1], [-1]])


class Sheet(unittest.TestCase):
    def test_empty(self):
        self.assertEqual(last(new(), sheet(1)), [0])
        self.assertEqual(last(new(), sheet(40)), [0])
        self.assertEqual(last(*tables(3), sheet(1)), [0])

    def test_no_such_board(self):
        self.assertEqual(last(new(2, 39), sheet(40)), [-10])
        self.assertEqual(last(new(2, 1), sheet(2)), [-10])
        self.assertEqual(last(new(2, 1), sheet(1)), [0])
        self.assertEqual(ask(sheet(1), sheet(41), sheet(FAR), sheet(-FAR)), [[-3], [-1], [-1], [-1]])

    def test_smaller_north_south_pairs_first(self):
        # Neither the order of sitting, nor of entering, nor tables or rounds tell the order.
        calls = [new(9, 1), sit(2, 1, 7, 1), sit(3, 1, 2, 9), sit(1, 2, 5, 8), sit(1, 1, 6, 3)]
        calls += [passed(1, 2, 1), passed(2, 1, 1), average(1, 1, 1, 50, 50), passed(3, 1, 1)]
        self.assertEqual(last(*calls, sheet(1)), [
            0, 2, 9, 0, 3, 1, 5, 8, 0, 3, 1, 6, 3, 0, 3, 1, 7, 1, 0, 3, 1])

    def test_only_what_is_entered(self):
        calls = [new(6, 2), *mitchell(3, 1, 2), passed(1, 3, 2), passed(1, 1, 1)]
        self.assertEqual(last(*calls, sheet(1)), [0, 1, 4, 0, 0, 1])
        self.assertEqual(last(*calls, sheet(2)), [0, 3, 6, 0, 0, 1])

    def test_is_gone_with_a_new_event(self):
        self.assertEqual(last(*entered(420, 50), new(20, 3), sheet(1)), [0])
        self.assertEqual(last(*entered(420, 50), *tables(2), passed(1, 1, 1), sheet(1)), [0, 1, 11, 0, 0, 1])
        self.assertEqual(last(*entered(420, 50), new(20, 3), score(1, 1)), [-13])


if __name__ == "__main__":
    unittest.main()
