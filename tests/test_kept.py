"""What the calls leave behind in the event, as later calls ask for it."""

import unittest

from pairsevent.desk import Desk, answer_to
from pairsevent.event import ArtificialEntry, RealEntry
from pairsevent.forms import read_calls
from tests.helper import adjust, appeal, average, foul, line, new, passed, played, remove, result, round_robin
from tests.helper import ruling, sit, unsit

SEATED = [new(10, 20), sit(2, 3, 4, 5, 6, 3), sit(2, 4, 6, 7, 6, 3)]
PLACE = (2, 3, 6)


def desk_after(*calls):
    """The desk behind these calls, and the answers to them."""
    desk = Desk()
    return desk, [answer_to(desk, call) for call in read_calls(line(calls))]


def event_after(*calls):
    desk, told = desk_after(*calls)
    for call, answer in zip(calls, told):
        assert answer[0] == 0, (call, answer)
    return desk.event


def entry_after(*calls):
    return event_after(*SEATED, *calls).entries.get(PLACE)


class Kept(unittest.TestCase):
    def check_real(self, entry, group, outcomes):
        self.assertIsInstance(entry, RealEntry)
        self.assertEqual((entry.group, entry.outcomes), (group, outcomes))

    def check_artificial(self, entry, group, ns, ew):
        self.assertIsInstance(entry, ArtificialEntry)
        self.assertEqual((entry.group, entry.ns_per_cent, entry.ew_per_cent), (group, ns, ew))

    def test_new_event(self):
        event = event_after(*SEATED, passed(*PLACE), adjust(3, 5), appeal(*PLACE), new(7, 9))
        self.assertEqual((event.pairs, event.boards, event.changes), (7, 9, 0))
        self.assertEqual((event.sittings, event.entries, event.adjustments, event.appeals), ([], {}, {}, []))

    def test_sittings_in_the_order_told(self):
        calls = [new(10, 20), sit(5, 3, 2, 1, 4, 3), sit(1, 2, 9, 10, 20, 1), sit(1, 1, 3, 4, 1, 20)]
        kept = [(s.round_number, s.table, s.ns, s.ew, s.first, s.last) for s in event_after(*calls).sittings]
        self.assertEqual(kept, [(5, 3, 2, 1, 4, 6), (1, 2, 9, 10, 20, 20), (1, 1, 3, 4, 1, 20)])
        kept = event_after(*calls, unsit(5, 3), sit(5, 3, 2, 1, 4, 3)).sittings
        self.assertEqual([s.ns for s in kept], [9, 3, 2])

    def test_result(self):
        self.check_real(entry_after(result(*PLACE, [3, -50])), 0, [(3, -50)])
        self.check_real(entry_after(result(*PLACE, [3, 5, 1000, -20000, 1, 20000, 7, 0])), 0,
                        [(3, 5), (1000, -20000), (1, 20000), (7, 0)])

    def test_played(self):
        # On board 6 east and west are vulnerable.
        self.check_real(entry_after(played(*PLACE, 4, 3, 0, 0, 10)), 0, [(1, 420)])
        self.check_real(entry_after(played(*PLACE, 4, 3, 0, 3, 10)), 0, [(1, -620)])

    def test_passed(self):
        self.check_real(entry_after(passed(*PLACE)), 0, [(1, 0)])

    def test_average(self):
        self.check_artificial(entry_after(average(*PLACE, 60, 35)), 0, 60, 35)

    def test_foul_and_the_group_behind_it(self):
        before = [result(*PLACE, [1, 10, 2, 20]), foul(*PLACE, 9)]
        self.check_real(entry_after(*before), 9, [(1, 10), (2, 20)])
        self.check_real(entry_after(*before, foul(*PLACE, 0)), 0, [(1, 10), (2, 20)])
        self.check_real(entry_after(*before, result(*PLACE, [5, 6])), 9, [(5, 6)])
        self.check_real(entry_after(*before, played(*PLACE, 1, 0, 0, 0, 7)), 9, [(1, 70)])
        self.check_real(entry_after(*before, passed(*PLACE)), 9, [(1, 0)])
        self.check_artificial(entry_after(*before, average(*PLACE, 1, 2)), 9, 1, 2)
        self.check_real(entry_after(*before, appeal(*PLACE)), 9, [(1, 10), (2, 20)])
        self.check_real(entry_after(*before, appeal(*PLACE), ruling(*PLACE, [4, 8])), 9, [(4, 8)])

    def test_average_keeps_the_group_that_foul_gave_it(self):
        before = [average(*PLACE, 50, 50), foul(*PLACE, 4)]
        self.check_artificial(entry_after(*before), 4, 50, 50)
        self.check_real(entry_after(*before, passed(*PLACE)), 4, [(1, 0)])
        self.check_real(entry_after(*before, appeal(*PLACE), ruling(*PLACE, [4, 8])), 4, [(4, 8)])

    def test_removed_takes_its_group_along(self):
        before = [passed(*PLACE), foul(*PLACE, 9), remove(*PLACE)]
        self.assertIsNone(entry_after(*before))
        self.check_real(entry_after(*before, passed(*PLACE)), 0, [(1, 0)])
        self.check_artificial(entry_after(*before, average(*PLACE, 7, 8)), 0, 7, 8)

    def test_places_by_themselves(self):
        event = event_after(*SEATED, passed(2, 3, 6), average(2, 4, 6, 1, 2), foul(2, 4, 6, 5), passed(2, 3, 7))
        self.assertEqual(sorted(event.entries), [(2, 3, 6), (2, 3, 7), (2, 4, 6)])
        self.check_real(event.entries[(2, 3, 6)], 0, [(1, 0)])
        self.check_artificial(event.entries[(2, 4, 6)], 5, 1, 2)

    def test_adjust(self):
        event = event_after(*SEATED, adjust(3, 50), adjust(10, -100000), adjust(3, -7))
        self.assertEqual(event.adjustments, {3: -7, 10: -100000})

    def test_appeals_in_the_order_in_which_they_came_to_be(self):
        entered = [*SEATED, passed(2, 3, 6), passed(2, 4, 6), passed(2, 3, 7)]
        before = [*entered, appeal(2, 3, 7), appeal(2, 3, 6), appeal(2, 4, 6)]
        self.assertEqual(event_after(*before).appeals, [(2, 3, 7), (2, 3, 6), (2, 4, 6)])
        self.assertEqual(event_after(*before, ruling(2, 3, 6, [1, 0])).appeals, [(2, 3, 7), (2, 4, 6)])
        again = event_after(*before, ruling(2, 3, 7, [1, 0]), appeal(2, 3, 7))
        self.assertEqual(again.appeals, [(2, 3, 6), (2, 4, 6), (2, 3, 7)])

    def test_changes(self):
        counted = [result(*PLACE, [1, 1]), played(*PLACE, 1, 0, 0, 0, 7), passed(*PLACE), average(*PLACE),
                   foul(*PLACE, 2), foul(*PLACE, 2), remove(*PLACE), adjust(1, 0), adjust(1, 0), passed(*PLACE)]
        for k in range(len(counted) + 1):
            self.assertEqual(event_after(*SEATED, *counted[:k]).changes, k)
        self.assertEqual(event_after(*SEATED, *counted, appeal(*PLACE)).changes, 10)
        self.assertEqual(event_after(*SEATED, *counted, appeal(*PLACE), ruling(*PLACE, [1, 0])).changes, 11)
        self.assertEqual(event_after(*SEATED, unsit(2, 3), sit(2, 3, 4, 5)).changes, 0)
        self.assertEqual(event_after(*SEATED, *counted, new()).changes, 0)


class Refused(unittest.TestCase):
    def test_changes_do_not_count(self):
        refused = [remove(*PLACE), foul(*PLACE), appeal(*PLACE), ruling(*PLACE, [1, 0]), adjust(11, 1),
                   result(*PLACE, []), average(*PLACE, 101, 0), passed(9, 9, 9), new(1, 1)]
        desk, told = desk_after(*SEATED, *refused)
        self.assertEqual(told[3:], [[-13], [-13], [-13], [-14], [-5], [-1], [-1], [-11], [-1]])
        self.assertEqual((desk.event.changes, desk.event.entries, desk.event.adjustments), (0, {}, {}))

    def test_entry_under_appeal_stays_as_it_was(self):
        refused = [result(*PLACE, [1, 7]), played(*PLACE, 1, 0, 0, 0, 7), passed(*PLACE), average(*PLACE),
                   foul(*PLACE, 5), remove(*PLACE), appeal(*PLACE)]
        desk, told = desk_after(*SEATED, result(*PLACE, [2, 90]), foul(*PLACE, 3), appeal(*PLACE), *refused)
        self.assertEqual(told[6:], [[-12]] * 7)
        entry = desk.event.entries[PLACE]
        self.assertEqual((entry.group, entry.outcomes), (3, [(2, 90)]))
        self.assertEqual((desk.event.changes, desk.event.appeals), (2, [PLACE]))


class Full(unittest.TestCase):
    """One line has no room for 400 sittings behind its new; the event itself refuses the next one all the same."""

    def test_400_sittings(self):
        calls = [new()] + round_robin(20)
        self.assertEqual(len(event_after(*calls).sittings), 400)
        further = round_robin(21)[-1]
        desk, told = desk_after(*calls, further, unsit(1, 1), further)
        self.assertEqual(told[-3:], [[-9], [0], [0]])
        self.assertEqual(len(desk.event.sittings), 400)

    def test_full_is_told_last(self):
        full = [new()] + round_robin(20)
        ns, ew = round_robin(20)[0][3:5]
        for call, refusal in ((sit(21, 1, 1, 1, 21), -5), (sit(21, 1, 1, 2, 40, 2), -10), (sit(20, 1, 1, 2, 21), -6),
                              (sit(21, 1, 1, 2, 20), -7), (sit(21, 1, ns, ew, 21), -8)):
            self.assertEqual(desk_after(*full, call)[1][-1], [refusal])
        self.assertEqual(desk_after(*full, passed(1, 1, 1), sit(21, 1, 1, 2, 21))[1][-1], [-4])


if __name__ == "__main__":
    unittest.main()
