"""The calls that tell what the event holds: met, sittings, missing, changes and appeals."""

from pairsevent.event import is_pair
from pairsevent.forms import CHANGES, MET, MISSING, SITTINGS
from pairsevent.refusals import NO_SUCH_PAIR


def is_between(sitting, pair, other):
    """Whether the one pair sits against the other here, in whichever direction."""
    if sitting.ns == pair:
        return sitting.ew == other
    return sitting.ns == other and sitting.ew == pair


def met_answer(event, pair, other):
    for sitting in event.sittings:
        if is_between(sitting, pair, other):
            return [0, sitting.round_number, sitting.table]
    return [0, 0, 0]


def sitting_as_seen(sitting, pair):
    """The six numbers told of a sitting to one of its pairs; none to a pair that doesn't sit in it."""
    boards = sitting.last - sitting.first + 1
    if sitting.ns == pair:
        return [sitting.round_number, sitting.table, 0, sitting.ew, sitting.first, boards]
    if sitting.ew == pair:
        return [sitting.round_number, sitting.table, 1, sitting.ns, sitting.first, boards]
    return []


def sittings_answer(event, pair):
    if not is_pair(event, pair):
        return [NO_SUCH_PAIR]
    told = [0]
    for sitting in event.sittings:
        told.extend(sitting_as_seen(sitting, pair))
    return told


def missing_answer(event):
    told = [0]
    for sitting in event.sittings:
        for board in range(sitting.first, sitting.last + 1):
            place = (sitting.round_number, sitting.table, board)
            if place not in event.entries:
                told.extend(place)
    return told


def appeals_answer(event):
    told = [0]
    for place in event.appeals:
        told.extend(place)
    return told


def listing_answer(event, call):
    """The answer to one of the calls 18 to 22."""
    if call.number == MET:
        return met_answer(event, call.plain[0], call.plain[1])
    if call.number == SITTINGS:
        return sittings_answer(event, call.plain[0])
    if call.number == MISSING:
        return missing_answer(event)
    if call.number == CHANGES:
        return [0, event.changes]
    return appeals_answer(event)
