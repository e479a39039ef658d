"""Promises 3 to 11: what is answered at places, and what it does to the calls behind it."""

import unittest

from tests.helper import FAR, adjust, appeal, ask, average, foul, last, new, passed, played, remove, result, ruling
from tests.helper import sit, unsit

SEATED = [new(10, 20), sit(2, 3, 4, 5, 6, 3)]

# Each call on a place, with what is behind the place as it may stand.
ON_A_PLACE = {
    "result": lambda r, t, b: result(r, t, b, [1, 100]),
    "played": lambda r, t, b: played(r, t, b, 1, 0, 0, 0, 7),
    "passed": passed,
    "average": average,
    "foul": foul,
    "remove": remove,
    "appeal": appeal,
    "ruling": lambda r, t, b: ruling(r, t, b, [1, 100]),
}
THAT_ENTER = ("result", "played", "passed", "average")
THAT_NEED_AN_ENTRY = ("foul", "remove", "appeal")


class Given(unittest.TestCase):
    def test_places_that_are_not_given(self):
        beside = [(1, 3, 6), (3, 3, 6), (2, 2, 6), (2, 4, 6), (2, 3, 5), (2, 3, 9), (2, 3, 21), (2, 3, 40), (3, 2, 6)]
        for name, call in ON_A_PLACE.items():
            for place in beside:
                self.assertEqual(last(*SEATED, call(*place)), [-11], (name, place))

    def test_no_sitting_at_all(self):
        for name, call in ON_A_PLACE.items():
            self.assertEqual(last(new(), call(1, 1, 1)), [-11], name)

    def test_not_given_is_told_ahead_of_what_else_would_refuse(self):
        before = [*SEATED, passed(2, 3, 6), appeal(2, 3, 6)]
        for name, call in ON_A_PLACE.items():
            self.assertEqual(last(*before, call(2, 3, 9)), [-11], name)

    def test_each_board_of_the_sitting_is_given(self):
        for board in (6, 7, 8):
            for name in THAT_ENTER:
                self.assertEqual(last(*SEATED, ON_A_PLACE[name](2, 3, board))[0], 0)

    def test_last_places_of_the_ranges(self):
        before = [new(), sit(40, 20, 39, 40, 40, 1)]
        for name in THAT_ENTER:
            self.assertEqual(last(*before, ON_A_PLACE[name](40, 20, 40))[0], 0)


class Entering(unittest.TestCase):
    def test_answers(self):
        self.assertEqual(last(*SEATED, result(2, 3, 6, [1, 100])), [0])
        self.assertEqual(last(*SEATED, played(2, 3, 6, 4, 3, 0, 0, 10)), [0, 420])
        self.assertEqual(last(*SEATED, passed(2, 3, 6)), [0])
        self.assertEqual(last(*SEATED, average(2, 3, 6, 0, 100)), [0])
        self.assertEqual(last(*SEATED, average(2, 3, 6, 100, 0)), [0])

    def test_each_is_an_entry_afterwards(self):
        for name in THAT_ENTER:
            before = [*SEATED, ON_A_PLACE[name](2, 3, 6)]
            for behind in THAT_NEED_AN_ENTRY:
                self.assertEqual(last(*before, ON_A_PLACE[behind](2, 3, 6)), [0], (name, behind))
                self.assertEqual(last(*before, ON_A_PLACE[behind](2, 3, 7)), [-13], (name, behind))
            self.assertEqual(last(*before, unsit(2, 3)), [-4], name)

    def test_each_may_stand_in_the_place_of_an_older_one(self):
        for older in THAT_ENTER:
            for newer in THAT_ENTER:
                before = [*SEATED, ON_A_PLACE[older](2, 3, 6), ON_A_PLACE[newer](2, 3, 6)]
                self.assertEqual(last(*before, remove(2, 3, 6)), [0])
                # There is one entry of a place, however often it was entered.
                self.assertEqual(last(*before, remove(2, 3, 6), remove(2, 3, 6)), [-13])
                self.assertEqual(last(*before, remove(2, 3, 6), unsit(2, 3)), [0])

    def test_same_board_at_two_tables(self):
        before = [new(), sit(1, 1, 1, 2), sit(1, 2, 3, 4), passed(1, 1, 1)]
        self.assertEqual(last(*before, foul(1, 2, 1)), [-13])
        self.assertEqual(last(*before, passed(1, 2, 1), remove(1, 1, 1), foul(1, 2, 1)), [0])


class NeedAnEntry(unittest.TestCase):
    def test_no_entry(self):
        for name in THAT_NEED_AN_ENTRY:
            self.assertEqual(last(*SEATED, ON_A_PLACE[name](2, 3, 6)), [-13], name)
            self.assertEqual(last(*SEATED, passed(2, 3, 7), ON_A_PLACE[name](2, 3, 6)), [-13], name)

    def test_no_entry_any_more(self):
        for name in THAT_NEED_AN_ENTRY:
            before = [*SEATED, passed(2, 3, 6), remove(2, 3, 6)]
            self.assertEqual(last(*before, ON_A_PLACE[name](2, 3, 6)), [-13], name)
            self.assertEqual(last(*before, passed(2, 3, 6), ON_A_PLACE[name](2, 3, 6)), [0], name)

    def test_fouled_is_still_an_entry(self):
        for g in (0, 9):
            self.assertEqual(last(*SEATED, passed(2, 3, 6), foul(2, 3, 6, g), remove(2, 3, 6)), [0])


class Adjust(unittest.TestCase):
    def test_answers(self):
        for pair in (1, 10):
            for h in (-100000, -1, 0, 1, 100000):
                self.assertEqual(last(new(10, 4), adjust(pair, h)), [0])

    def test_no_such_pair(self):
        self.assertEqual(last(new(10, 4), adjust(11, 5)), [-5])
        self.assertEqual(last(new(10, 4), adjust(40, 5)), [-5])
        self.assertEqual(last(new(2, 4), adjust(3, 5)), [-5])

    def test_is_no_entry(self):
        self.assertEqual(last(*SEATED, adjust(4, 100), unsit(2, 3)), [0])

    def test_goes_on_under_appeal(self):
        self.assertEqual(last(*SEATED, passed(2, 3, 6), appeal(2, 3, 6), adjust(4, 100)), [0])


class Appeal(unittest.TestCase):
    APPEALED = [*SEATED, passed(2, 3, 6), passed(2, 3, 7), appeal(2, 3, 6)]

    def test_answers(self):
        self.assertEqual(last(*self.APPEALED), [0])

    def test_place_is_under_appeal(self):
        for name, call in ON_A_PLACE.items():
            expected = [0] if name == "ruling" else [-12]
            self.assertEqual(last(*self.APPEALED, call(2, 3, 6)), expected, name)

    def test_other_places_are_not(self):
        for name, call in ON_A_PLACE.items():
            expected = -14 if name == "ruling" else 0
            self.assertEqual(last(*self.APPEALED, call(2, 3, 7))[0], expected, name)

    def test_each_refused_leaves_it_under_appeal(self):
        refused = [ON_A_PLACE[name](2, 3, 6) for name in ON_A_PLACE if name != "ruling"]
        told = ask(*self.APPEALED, *refused, ruling(2, 3, 6, [1, 0]))
        self.assertEqual(told[len(self.APPEALED):], [[-12]] * len(refused) + [[0]])

    def test_entry_stays(self):
        self.assertEqual(last(*self.APPEALED, unsit(2, 3)), [-4])
        self.assertEqual(last(*self.APPEALED, sit(3, 3, 1, 2)), [-4])

    def test_refused_is_not_under_appeal(self):
        told = ask(*SEATED, appeal(2, 3, 6), passed(2, 3, 6), ruling(2, 3, 6, [1, 0]))
        self.assertEqual(told[2:], [[-13], [0], [-14]])


class Ruling(unittest.TestCase):
    RULED = [*Appeal.APPEALED, ruling(2, 3, 6, [3, 620, 1, -100])]

    def test_answers(self):
        self.assertEqual(last(*self.RULED), [0])

    def test_not_under_appeal(self):
        self.assertEqual(last(*SEATED, ruling(2, 3, 6, [1, 0])), [-14])
        self.assertEqual(last(*SEATED, passed(2, 3, 6), ruling(2, 3, 6, [1, 0])), [-14])

    def test_not_given_comes_first(self):
        self.assertEqual(last(*SEATED, ruling(2, 4, 6, [1, 0])), [-11])

    def test_place_is_under_appeal_no_longer(self):
        for name, call in ON_A_PLACE.items():
            expected = -14 if name == "ruling" else 0
            self.assertEqual(last(*self.RULED, call(2, 3, 6))[0], expected, name)

    def test_may_be_appealed_and_ruled_again(self):
        self.assertEqual(last(*self.RULED, appeal(2, 3, 6), ruling(2, 3, 6, [1, 0])), [0])
        self.assertEqual(last(*self.RULED, appeal(2, 3, 6), passed(2, 3, 6)), [-12])

    def test_leaves_an_entry(self):
        self.assertEqual(last(*self.RULED, remove(2, 3, 7), unsit(2, 3)), [-4])
        self.assertEqual(last(*self.RULED, remove(2, 3, 7), remove(2, 3, 6), unsit(2, 3)), [0])

    def test_of_one_place_leaves_the_other_under_appeal(self):
        before = [*Appeal.APPEALED, appeal(2, 3, 7), ruling(2, 3, 6, [1, 0])]
        self.assertEqual(last(*before, passed(2, 3, 7)), [-12])
        self.assertEqual(last(*before, passed(2, 3, 6)), [0])
        self.assertEqual(last(*before, ruling(2, 3, 7, [1, 0])), [0])

    def test_refused_leaves_it_under_appeal(self):
        wrong = ruling(2, 3, 6, [1, 0, 1])
        told = ask(*Appeal.APPEALED, wrong, passed(2, 3, 6), ruling(2, 3, 6, [1, 0]))
        self.assertEqual(told[len(Appeal.APPEALED):], [[-1], [-12], [0]])


class Outcomes(unittest.TestCase):
    def check(self, outcomes, expected):
        self.assertEqual(last(*SEATED, result(2, 3, 6, outcomes)), expected, outcomes)
        self.assertEqual(last(*Appeal.APPEALED, ruling(2, 3, 6, outcomes)), expected, outcomes)
        self.assertEqual(ask(result(2, 3, 6, outcomes)), [[-3] if expected == [0] else [-1]], outcomes)
        self.assertEqual(ask(ruling(2, 3, 6, outcomes)), [[-3] if expected == [0] else [-1]], outcomes)

    def test_lengths(self):
        for length in range(21):
            self.check(([5, 50] * 10)[:length], [0] if length in (2, 4, 6, 8) else [-1])

    def test_weights(self):
        for weight, expected in ((-FAR, -1), (-1, -1), (0, -1), (1, 0), (2, 0), (999, 0), (1000, 0), (1001, -1), (FAR, -1)):
            for count in (1, 2, 3, 4):
                for at in range(count):
                    outcomes = [7, 70] * count
                    outcomes[2 * at] = weight
                    self.check(outcomes, [expected])

    def test_scores(self):
        for score, expected in ((-FAR, -1), (-20001, -1), (-20000, 0), (0, 0), (20000, 0), (20001, -1), (FAR, -1)):
            for count in (1, 2, 3, 4):
                for at in range(count):
                    outcomes = [7, 70] * count
                    outcomes[2 * at + 1] = score
                    self.check(outcomes, [expected])

    def test_far_numbers_beyond_the_length(self):
        self.check([FAR] * 20, [-1])
        self.check([-FAR] * 19, [-1])


if __name__ == "__main__":
    unittest.main()
