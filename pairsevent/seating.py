"""The calls sit and unsit: who sits where, in which round, with which boards."""

from pairsevent.event import Sitting, has_entries, is_pair, sitting_at
from pairsevent.refusals import BOARD_TAKEN, FULL, HAS_ENTRIES, HAVE_MET, NO_SUCH_BOARD, NO_SUCH_PAIR
from pairsevent.refusals import NOT_GIVEN, ROUND_TAKEN

MOST_SITTINGS = 400


def sits_in(sitting, pair):
    return pair == sitting.ns or pair == sitting.ew


def share_a_pair(sitting, other):
    return sits_in(other, sitting.ns) or sits_in(other, sitting.ew)


def share_both_pairs(sitting, other):
    return sits_in(other, sitting.ns) and sits_in(other, sitting.ew)


def share_a_board(sitting, other):
    return sitting.first <= other.last and other.first <= sitting.last


def is_round_taken(event, sitting):
    for other in event.sittings:
        if other.round_number == sitting.round_number:
            if other.table == sitting.table or share_a_pair(sitting, other):
                return True
    return False


def is_board_taken(event, sitting):
    for other in event.sittings:
        if share_a_pair(sitting, other) and share_a_board(sitting, other):
            return True
    return False


def have_met(event, sitting):
    for other in event.sittings:
        if share_both_pairs(sitting, other):
            return True
    return False


def are_two_pairs(event, sitting):
    return sitting.ns != sitting.ew and is_pair(event, sitting.ns) and is_pair(event, sitting.ew)


def sit_refusal(event, sitting):
    """The number by which this sitting is refused, or 0."""
    if has_entries(event):
        return HAS_ENTRIES
    if not are_two_pairs(event, sitting):
        return NO_SUCH_PAIR
    if sitting.last > event.boards:
        return NO_SUCH_BOARD
    if is_round_taken(event, sitting):
        return ROUND_TAKEN
    if is_board_taken(event, sitting):
        return BOARD_TAKEN
    if have_met(event, sitting):
        return HAVE_MET
    if len(event.sittings) >= MOST_SITTINGS:
        return FULL
    return 0


def sit(event, call):
    first = call.plain[4]
    last = first + call.plain[5] - 1
    sitting = Sitting(call.plain[0], call.plain[1], call.plain[2], call.plain[3], first, last)
    refusal = sit_refusal(event, sitting)
    if refusal == 0:
        event.sittings.append(sitting)
    return [refusal]


def unsit(event, call):
    if has_entries(event):
        return [HAS_ENTRIES]
    round_number = call.plain[0]
    table = call.plain[1]
    if sitting_at(event, round_number, table) is None:
        return [NOT_GIVEN]
    event.sittings = [s for s in event.sittings if s.round_number != round_number or s.table != table]
    return [0]
