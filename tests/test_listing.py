"""Promises 18 to 22: met, sittings, missing, changes and appeals."""

import unittest

from tests.helper import FAR, adjust, appeal, appeals, ask, asks, average, changes, foul, last, met, missing, new
from tests.helper import passed, played, post, remove, result, round_robin, ruling, sit, sittings, standings, total
from tests.helper import unsit

SEATED = [new(8, 20), sit(3, 2, 1, 2, 5, 3), sit(1, 4, 3, 1, 1, 1), sit(1, 1, 2, 4, 20, 1)]


class Met(unittest.TestCase):
    def test_in_both_orders(self):
        for p, q, told in ((1, 2, [3, 2]), (3, 1, [1, 4]), (2, 4, [1, 1])):
            self.assertEqual(last(*SEATED, met(p, q)), [0, *told])
            self.assertEqual(last(*SEATED, met(q, p)), [0, *told])

    def test_have_not_met(self):
        for p, q in ((1, 4), (2, 3), (3, 4), (5, 1), (8, 7)):
            self.assertEqual(last(*SEATED, met(p, q)), [0, 0, 0])
            self.assertEqual(last(*SEATED, met(q, p)), [0, 0, 0])

    def test_a_pair_and_itself(self):
        for p in (1, 2, 3, 4, 8, 9, 40):
            self.assertEqual(last(*SEATED, met(p, p)), [0, 0, 0])

    def test_a_pair_that_is_not_there(self):
        self.assertEqual(last(*SEATED, met(1, 9)), [0, 0, 0])
        self.assertEqual(last(*SEATED, met(9, 1)), [0, 0, 0])
        self.assertEqual(last(*SEATED, met(40, 39)), [0, 0, 0])

    def test_unsit(self):
        self.assertEqual(last(*SEATED, unsit(3, 2), met(1, 2)), [0, 0, 0])
        self.assertEqual(last(*SEATED, unsit(3, 2), met(2, 4)), [0, 1, 1])
        self.assertEqual(last(*SEATED, unsit(3, 2), sit(7, 9, 2, 1, 5, 3), met(1, 2)), [0, 7, 9])

    def test_edges(self):
        self.assertEqual(last(new(), sit(40, 20, 40, 39), met(39, 40)), [0, 40, 20])

    def test_out_of_range_and_no_event(self):
        for wrong in (0, 41, -1, FAR, -FAR):
            self.assertEqual(ask(met(wrong, 1), met(1, wrong)), [[-1], [-1]])
            self.assertEqual(ask(new(), met(wrong, wrong))[1], [-1])
        self.assertEqual(ask(met(1, 1), met(40, 40)), [[-3], [-3]])

    def test_new_event(self):
        self.assertEqual(last(*SEATED, new(8, 20), met(1, 2)), [0, 0, 0])


class Sittings(unittest.TestCase):
    def test_in_the_order_told(self):
        self.assertEqual(last(*SEATED, sittings(1)), [0, 3, 2, 0, 2, 5, 3, 1, 4, 1, 3, 1, 1])
        self.assertEqual(last(*SEATED, sittings(2)), [0, 3, 2, 1, 1, 5, 3, 1, 1, 0, 4, 20, 1])
        self.assertEqual(last(*SEATED, sittings(3)), [0, 1, 4, 0, 1, 1, 1])
        self.assertEqual(last(*SEATED, sittings(4)), [0, 1, 1, 1, 2, 20, 1])

    def test_none(self):
        self.assertEqual(last(*SEATED, sittings(5)), [0])
        self.assertEqual(last(new(), sittings(40)), [0])

    def test_after_unsit(self):
        self.assertEqual(last(*SEATED, unsit(3, 2), sittings(1)), [0, 1, 4, 1, 3, 1, 1])
        self.assertEqual(last(*SEATED, unsit(3, 2), sit(3, 2, 1, 2, 5, 3), sittings(1)), [
            0, 1, 4, 1, 3, 1, 1, 3, 2, 0, 2, 5, 3])
        self.assertEqual(last(*SEATED, unsit(1, 4), sittings(1)), [0, 3, 2, 0, 2, 5, 3])
        self.assertEqual(last(*SEATED, unsit(1, 4), unsit(3, 2), sittings(1)), [0])

    def test_refused_sittings_are_not_told(self):
        told = ask(*SEATED, sit(3, 2, 1, 5, 9, 1), sit(4, 4, 1, 2, 9, 1), unsit(9, 9), sittings(1))
        self.assertEqual(told[-4:], [[-6], [-8], [-11], [0, 3, 2, 0, 2, 5, 3, 1, 4, 1, 3, 1, 1]])

    def test_entries_do_not_matter(self):
        self.assertEqual(last(*SEATED, passed(3, 2, 5), sittings(2)), [0, 3, 2, 1, 1, 5, 3, 1, 1, 0, 4, 20, 1])

    def test_edges(self):
        self.assertEqual(last(new(), sit(40, 20, 40, 39, 1, 40), sittings(39)), [0, 40, 20, 1, 40, 1, 40])
        self.assertEqual(last(new(), sit(40, 20, 40, 39, 40, 1), sittings(40)), [0, 40, 20, 0, 39, 40, 1])

    def test_many(self):
        told = last(new(), *round_robin(19), sittings(40))
        self.assertEqual(told, [0] + [number for k in range(1, 20) for number in (k, 1, 0, k, k, 1)])

    def test_no_such_pair(self):
        self.assertEqual(last(*SEATED, sittings(9)), [-5])
        self.assertEqual(last(*SEATED, sittings(40)), [-5])
        self.assertEqual(ask(sittings(40), sittings(41), sittings(0), sittings(FAR), sittings(-FAR)), [
            [-3], [-1], [-1], [-1], [-1]])
        self.assertEqual(last(*SEATED, sittings(41)), [-1])

    def test_new_event(self):
        self.assertEqual(last(*SEATED, new(8, 20), sittings(1)), [0])


class Missing(unittest.TestCase):
    ALL = [0, 3, 2, 5, 3, 2, 6, 3, 2, 7, 1, 4, 1, 1, 1, 20]

    def test_by_sittings_then_by_boards(self):
        self.assertEqual(last(*SEATED, missing()), self.ALL)

    def test_none(self):
        self.assertEqual(last(new(), missing()), [0])
        entered = [passed(3, 2, 6), average(3, 2, 5), result(3, 2, 7, [1, 0]), passed(1, 4, 1), passed(1, 1, 20)]
        self.assertEqual(last(*SEATED, *entered, missing()), [0])

    def test_entered(self):
        self.assertEqual(last(*SEATED, passed(3, 2, 6), missing()), [0, 3, 2, 5, 3, 2, 7, 1, 4, 1, 1, 1, 20])
        self.assertEqual(last(*SEATED, average(3, 2, 5), missing()), [0, 3, 2, 6, 3, 2, 7, 1, 4, 1, 1, 1, 20])
        self.assertEqual(last(*SEATED, played(1, 4, 1, 1, 0, 0, 0, 7), missing()), [
            0, 3, 2, 5, 3, 2, 6, 3, 2, 7, 1, 1, 20])

    def test_fouled_appealed_and_ruled_upon_are_not_missing(self):
        told = [0, 3, 2, 5, 3, 2, 7, 1, 4, 1, 1, 1, 20]
        calls = [*SEATED, passed(3, 2, 6), foul(3, 2, 6, 3), appeal(3, 2, 6)]
        self.assertEqual(last(*calls, missing()), told)
        self.assertEqual(last(*calls, ruling(3, 2, 6, [1, 0]), missing()), told)

    def test_removed(self):
        self.assertEqual(last(*SEATED, passed(3, 2, 6), remove(3, 2, 6), missing()), self.ALL)

    def test_after_unsit(self):
        self.assertEqual(last(*SEATED, unsit(3, 2), missing()), [0, 1, 4, 1, 1, 1, 20])
        self.assertEqual(last(*SEATED, unsit(3, 2), sit(3, 2, 1, 2, 5, 1), missing()), [0, 1, 4, 1, 1, 1, 20, 3, 2, 5])

    def test_same_board_at_two_tables(self):
        self.assertEqual(last(new(), sit(1, 1, 1, 2), sit(1, 2, 3, 4), passed(1, 2, 1), missing()), [0, 1, 1, 1])

    def test_many(self):
        told = last(new(), *[sit(1, t, t, 20 + t, 1, 40) for t in range(1, 21)], missing())
        self.assertEqual(told, [0] + [number for t in range(1, 21) for b in range(1, 41) for number in (1, t, b)])

    def test_no_event_and_new_event(self):
        self.assertEqual(ask(missing()), [[-3]])
        self.assertEqual(last(*SEATED, new(8, 20), missing()), [0])


class Changes(unittest.TestCase):
    PLACE = (3, 2, 6)

    def count(self, *calls):
        return ask(*SEATED, *calls, changes())[-1]

    def test_none(self):
        self.assertEqual(last(new(), changes()), [0, 0])
        self.assertEqual(self.count(unsit(3, 2), sit(3, 2, 1, 2, 5, 3)), [0, 0])

    def test_each_call_that_counts(self):
        counted = [result(*self.PLACE, [1, 1]), played(*self.PLACE, 1, 0, 0, 0, 7), passed(*self.PLACE),
                   average(*self.PLACE), foul(*self.PLACE, 2), remove(*self.PLACE), adjust(1, 5), passed(*self.PLACE)]
        for k in range(len(counted) + 1):
            self.assertEqual(self.count(*counted[:k]), [0, k])
        appealed = [*counted, appeal(*self.PLACE)]
        self.assertEqual(self.count(*appealed), [0, len(counted)])
        self.assertEqual(self.count(*appealed, ruling(*self.PLACE, [1, 0])), [0, len(counted) + 1])

    def test_what_leaves_all_as_it_was_counts_too(self):
        self.assertEqual(self.count(adjust(1, 0), adjust(1, 0)), [0, 2])
        self.assertEqual(self.count(*[passed(*self.PLACE)] * 3, *[foul(*self.PLACE, 0)] * 4), [0, 7])

    def test_refused_calls_do_not_count(self):
        refused = [remove(*self.PLACE), foul(*self.PLACE), appeal(*self.PLACE), ruling(*self.PLACE, [1, 0]),
                   adjust(9, 1), result(*self.PLACE, []), average(*self.PLACE, 101, 0), passed(9, 9, 9),
                   adjust(1, FAR), new(1, 1)]
        self.assertEqual(self.count(*refused), [0, 0])
        appealed = [passed(*self.PLACE), appeal(*self.PLACE)]
        refused = [result(*self.PLACE, [1, 7]), played(*self.PLACE, 1, 0, 0, 0, 7), passed(*self.PLACE),
                   average(*self.PLACE), foul(*self.PLACE), remove(*self.PLACE), ruling(*self.PLACE, [0, 0])]
        self.assertEqual(self.count(*appealed, *refused), [0, 1])

    def test_asking_does_not_count(self):
        self.assertEqual(self.count(passed(*self.PLACE), *asks(8, 5)), [0, 1])
        self.assertEqual(self.count(post(), changes(), standings(), total(1)), [0, 0])

    def test_new_event_begins_anew(self):
        self.assertEqual(self.count(adjust(1, 5), *SEATED), [0, 0])
        self.assertEqual(self.count(adjust(1, 5), *SEATED, adjust(1, 5)), [0, 1])

    def test_no_event(self):
        self.assertEqual(ask(changes()), [[-3]])

    def test_as_many_as_a_line_has_room_for(self):
        self.assertEqual(last(new(), *[adjust(1, k) for k in range(398)], changes()), [0, 398])


class Appeals(unittest.TestCase):
    ENTERED = [*SEATED, passed(3, 2, 5), passed(3, 2, 6), average(1, 4, 1), passed(1, 1, 20)]

    def test_none(self):
        self.assertEqual(last(new(), appeals()), [0])
        self.assertEqual(last(*self.ENTERED, appeals()), [0])

    def test_in_the_order_in_which_they_came_to_be(self):
        calls = [*self.ENTERED, appeal(3, 2, 6), appeal(1, 4, 1), appeal(3, 2, 5)]
        self.assertEqual(last(*calls, appeals()), [0, 3, 2, 6, 1, 4, 1, 3, 2, 5])

    def test_after_a_ruling(self):
        calls = [*self.ENTERED, appeal(3, 2, 6), appeal(1, 4, 1), appeal(3, 2, 5)]
        self.assertEqual(last(*calls, ruling(1, 4, 1, [1, 0]), appeals()), [0, 3, 2, 6, 3, 2, 5])
        self.assertEqual(last(*calls, ruling(3, 2, 6, [1, 0]), appeals()), [0, 1, 4, 1, 3, 2, 5])
        again = [*calls, ruling(3, 2, 6, [1, 0]), appeal(3, 2, 6)]
        self.assertEqual(last(*again, appeals()), [0, 1, 4, 1, 3, 2, 5, 3, 2, 6])
        ruled = [ruling(3, 2, 5, [1, 0]), ruling(3, 2, 6, [1, 0]), ruling(1, 4, 1, [1, 0])]
        self.assertEqual(last(*calls, *ruled, appeals()), [0])

    def test_refused_changes_nothing(self):
        calls = [*self.ENTERED, appeal(3, 2, 6)]
        refused = [appeal(3, 2, 6), appeal(3, 2, 7), appeal(3, 2, 8), appeal(41, 1, 1), ruling(3, 2, 5, [1, 0]),
                   ruling(3, 2, 6, [1]), remove(3, 2, 6)]
        told = ask(*calls, *refused, appeals())
        self.assertEqual(told[-8:], [[-12], [-13], [-11], [-1], [-14], [-1], [-12], [0, 3, 2, 6]])

    def test_no_event_and_new_event(self):
        self.assertEqual(ask(appeals()), [[-3]])
        self.assertEqual(last(*self.ENTERED, appeal(3, 2, 6), new(8, 20), appeals()), [0])


if __name__ == "__main__":
    unittest.main()
