"""Promises 13 to 15: the standings, and those that are posted."""

import unittest

from tests.helper import FAR, adjust, appeal, ask, average, changes, foul, last, mitchell, new, passed, played, post
from tests.helper import posted, remove, result, ruling, sit, standings, unsit

SEATED = [new(9, 3), *mitchell(4, 1, 3)]


def averages(*per_cents):
    """Board 1 with these per cents for north and south and for east and west, a table each."""
    return [average(1, table, 1, ns, ew) for table, (ns, ew) in enumerate(per_cents, start=1)]


class Standings(unittest.TestCase):
    def check(self, calls, *rows):
        self.assertEqual(last(*calls, standings()), [0] + [number for row in rows for number in row])

    def test_nobody_has_tops(self):
        self.check([new()])
        self.check(SEATED)
        self.check([*SEATED, passed(1, 1, 1)])
        self.check([*SEATED, passed(1, 1, 1), passed(1, 2, 2), passed(1, 3, 3)])
        self.check([*SEATED, adjust(1, 100000), adjust(9, -5)])

    def test_greater_shares_first(self):
        calls = [*SEATED, *averages((10, 90), (80, 20), (30, 70), (60, 40))]
        self.check(calls, (1, 5, 9000), (2, 2, 8000), (3, 7, 7000), (4, 4, 6000), (5, 8, 4000), (6, 3, 3000),
                   (7, 6, 2000), (8, 1, 1000))

    def test_equal_shares(self):
        calls = [*SEATED, *averages((50, 50), (60, 40), (50, 60), (60, 40))]
        self.check(calls, (1, 2, 6000), (1, 4, 6000), (1, 7, 6000), (4, 1, 5000), (4, 3, 5000), (4, 5, 5000),
                   (7, 6, 4000), (7, 8, 4000))
        self.check([*SEATED, *averages((7, 7), (7, 7), (7, 7))], (1, 1, 700), (1, 2, 700), (1, 3, 700), (1, 5, 700),
                   (1, 6, 700), (1, 7, 700))

    def test_equal_shares_of_unequal_tops(self):
        calls = [*SEATED, *averages((25, 75), (75, 25)), average(1, 1, 2, 25, 75), average(1, 3, 2, 25, 80)]
        # Pair 1 has 1 of 4, pairs 3 and 6 half a matchpoint of 2; pair 5 has 3 of 4, pair 2 one and a half of 2.
        self.check(calls, (1, 7, 8000), (2, 2, 7500), (2, 5, 7500), (4, 1, 2500), (4, 3, 2500), (4, 6, 2500))

    def test_only_pairs_with_tops(self):
        self.check([*SEATED, *averages((60, 40), (30, 70)), passed(1, 3, 2), adjust(3, 500), adjust(9, 500)],
                   (1, 6, 7000), (2, 1, 6000), (3, 5, 4000), (4, 2, 3000))

    def test_equal_percentages_of_unequal_shares(self):
        calls = [new(8, 2), sit(1, 1, 1, 2, 1), sit(1, 2, 3, 4, 1), sit(1, 3, 5, 6, 2), sit(1, 4, 7, 8, 2),
                 result(1, 1, 1, [1000, 9, 989, 9, 1000, 0, 999, 0]), result(1, 2, 1, [1, 5]),
                 result(1, 3, 2, [1000, 9, 990, 9, 1000, 0, 1000, 0]), result(1, 4, 2, [1, 5])]
        # Pair 5 has a share of 1990 of 3990, pair 1 a smaller one, 1989 of 3988; their opponents have the rest.
        self.check(calls, (1, 2, 5013), (1, 3, 5013), (3, 6, 5013), (3, 7, 5013), (5, 5, 4987), (5, 8, 4987),
                   (7, 1, 4987), (7, 4, 4987))

    def test_adjusted(self):
        calls = [*SEATED, *averages((50, 50), (50, 50))]
        self.check([*calls, adjust(6, 1), adjust(1, -101)], (1, 6, 5050), (2, 2, 5000), (2, 5, 5000), (4, 1, -50))
        self.check([*calls, adjust(1, -100000), adjust(5, -100000)], (1, 2, 5000), (1, 6, 5000), (3, 1, -4995000),
                   (3, 5, -4995000))
        self.check([*calls, adjust(1, 100000)], (1, 1, 5005000), (2, 2, 5000), (2, 5, 5000), (2, 6, 5000))

    def test_forty_pairs(self):
        calls = [new(40, 1)] + [sit(1, t, t, 20 + t) for t in range(1, 21)]
        calls += [result(1, t, 1, [1, -10 * t]) for t in range(1, 21)]
        told = last(*calls, standings())
        self.assertEqual(len(told), 121)
        # Pair t has 2(20 - t) of 38 matchpoints, and so has pair 41 - t.
        self.assertEqual(told[1:10], [1, 1, 10000, 1, 40, 10000, 3, 2, 9474])
        self.assertEqual(told[-6:], [39, 20, 0, 39, 21, 0])

    def test_after_each_change(self):
        calls = [*SEATED, result(1, 1, 1, [1, 100]), result(1, 2, 1, [1, 0])]
        down = [(1, 2, 10000), (1, 5, 10000), (3, 1, 0), (3, 6, 0)]
        even = [(1, 1, 5000), (1, 2, 5000), (1, 5, 5000), (1, 6, 5000)]
        self.check(calls, (1, 1, 10000), (1, 6, 10000), (3, 2, 0), (3, 5, 0))
        self.check([*calls, result(1, 1, 1, [1, -5])], *down)
        self.check([*calls, played(1, 1, 1, 4, 3, 0, 0, 9)], *down)
        self.check([*calls, passed(1, 1, 1)], *even)
        self.check([*calls, average(1, 1, 1, 70, 20)], (1, 1, 7000), (2, 2, 5000), (2, 6, 5000), (4, 5, 2000))
        self.check([*calls, foul(1, 1, 1, 1)], *even)
        self.check([*calls, remove(1, 1, 1)])
        self.check([*calls, adjust(2, 300)], (1, 2, 15000), (2, 1, 10000), (2, 6, 10000), (4, 5, 0))
        self.check([*calls, appeal(1, 1, 1), ruling(1, 1, 1, [2, -5])], *down)

    def test_no_event(self):
        self.assertEqual(ask(standings()), [[-3]])
        self.assertEqual(ask(new(1, 1), standings()), [[-1], [-3]])

    def test_new_event(self):
        self.check([*SEATED, *averages((50, 50), (50, 50)), new(9, 3)])


class Posted(unittest.TestCase):
    BEFORE = [*SEATED, *averages((60, 40), (30, 70))]
    FIRST = [0, 1, 6, 7000, 2, 1, 6000, 3, 5, 4000, 4, 2, 3000]

    def test_how_many_are_posted(self):
        self.assertEqual(ask(new(), post(), post(), post()), [[0], [0, 1], [0, 2], [0, 3]])

    def test_told_as_the_standings_are(self):
        self.assertEqual(last(*self.BEFORE, standings()), self.FIRST)
        self.assertEqual(last(*self.BEFORE, post(), posted(1)), self.FIRST)

    def test_empty_standings_may_be_posted(self):
        self.assertEqual(last(new(), post(), posted(1)), [0])
        self.assertEqual(last(*SEATED, post(), *averages((60, 40), (30, 70)), posted(1)), [0])

    def test_stays_as_it_was(self):
        for behind in (
            [result(1, 3, 1, [1, 5])], [played(1, 3, 1, 4, 3, 0, 0, 9)], [passed(1, 1, 1)], [average(1, 1, 1, 0, 0)],
            [passed(1, 1, 1), passed(1, 2, 1), foul(1, 1, 1, 5)], [remove(1, 1, 1)], [remove(1, 1, 1), remove(1, 2, 1)],
            [remove(1, 1, 1), remove(1, 2, 1), unsit(1, 1)], [adjust(6, -100)], [adjust(9, 5)],
            [appeal(1, 1, 1), ruling(1, 1, 1, [1, 7])],
        ):
            self.assertEqual(last(*self.BEFORE, post(), *behind, posted(1)), self.FIRST, behind)
            self.assertEqual(last(*self.BEFORE, post(), *behind, post(), posted(1)), self.FIRST, behind)
            now = last(*self.BEFORE, post(), *behind, standings())
            self.assertEqual(last(*self.BEFORE, post(), *behind, post(), posted(2)), now, behind)

    def test_each_by_its_number(self):
        calls = list(self.BEFORE)
        expected = []
        for k in range(50):
            calls += [adjust(1, -10 * k), post()]
            expected.append([0, 1, 6, 7000, 2, 1, 6000 - 500 * k, 3, 5, 4000, 4, 2, 3000])
        told = ask(*calls, *[posted(k) for k in (1, 2, 3, 4)])
        self.assertEqual(told[-4:], expected[:4])
        told = ask(*calls, *[posted(k) for k in range(50, 0, -1)])
        # Later on pair 1 falls behind the others: what was told first still tells its percentage then.
        self.assertEqual([answer[answer.index(6) + 1] for answer in told[-50:]], [7000] * 50)
        percentages = [dict(zip(answer[2::3], answer[3::3]))[1] for answer in told[-50:]]
        self.assertEqual(percentages, [6000 - 500 * k for k in range(49, -1, -1)])

    def test_fewer_are_posted(self):
        self.assertEqual(last(new(), posted(1)), [-15])
        self.assertEqual(last(new(), posted(50)), [-15])
        self.assertEqual(last(new(), post(), posted(2)), [-15])
        self.assertEqual(last(new(), post(), post(), posted(3)), [-15])
        self.assertEqual(last(new(), post(), post(), posted(2)), [0])

    def test_fifty_are_posted_and_no_more(self):
        fifty = [post()] * 50
        self.assertEqual(ask(*self.BEFORE, *fifty)[-50:], [[0, k] for k in range(1, 51)])
        told = ask(*self.BEFORE, *fifty, adjust(1, 7), post(), post(), posted(50), posted(1), posted(51))
        self.assertEqual(told[-6:], [[0], [-9], [-9], self.FIRST, self.FIRST, [-1]])
        self.assertEqual(last(*self.BEFORE, *[post()] * 49, posted(50)), [-15])

    def test_new_event_clears_them(self):
        told = ask(*self.BEFORE, post(), post(), new(), posted(1), post(), posted(1), posted(2))
        self.assertEqual(told[-5:], [[0], [-15], [0, 1], [0], [-15]])
        self.assertEqual(last(new(), *[post()] * 50, new(), post()), [0, 1])

    def test_refused_new_event_leaves_them(self):
        self.assertEqual(ask(*self.BEFORE, post(), new(41, 1), posted(1))[-2:], [[-1], self.FIRST])

    def test_is_no_change(self):
        self.assertEqual(last(new(), post(), posted(1), standings(), changes()), [0, 0])

    def test_numbers_out_of_range_and_no_event(self):
        self.assertEqual(ask(post(), posted(1), posted(50), posted(0), posted(51), posted(FAR), posted(-FAR)),
                         [[-3], [-3], [-3], [-1], [-1], [-1], [-1]])
        self.assertEqual(ask(new(), posted(0), posted(51))[1:], [[-1], [-1]])


if __name__ == "__main__":
    unittest.main()
