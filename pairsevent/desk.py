"""The desk at which calls are handed in and answered."""

from pairsevent.entries import place_answer
from pairsevent.event import Event, is_pair
from pairsevent.forms import ADJUST, NEW, POSTED, RULING, SHEET, SIT, UNSIT, is_in_range, read_calls
from pairsevent.listing import listing_answer
from pairsevent.refusals import NO_EVENT, NO_SUCH_PAIR, OUT_OF_RANGE
from pairsevent.seating import sit, unsit
from pairsevent.sheets import board_answer
from pairsevent.standing import standing_answer

# What the event counts as its changes: an appeal by itself is none.
CALLS_THAT_CHANGE = (3, 4, 5, 6, 7, 8, 9, 11)


class Desk:
    """Holds the event of one line of calls; there is none before the first call."""

    def __init__(self):
        self.event = None


def adjust(event, call):
    pair = call.plain[0]
    if not is_pair(event, pair):
        return [NO_SUCH_PAIR]
    event.adjustments[pair] = call.plain[1]
    return [0]


def event_answer(event, call):
    """The answer to any call but new, by the file that looks after it."""
    if call.number == SIT:
        return sit(event, call)
    if call.number == UNSIT:
        return unsit(event, call)
    if call.number == ADJUST:
        return adjust(event, call)
    if call.number <= RULING:
        return place_answer(event, call)
    if call.number <= POSTED:
        return standing_answer(event, call)
    if call.number <= SHEET:
        return board_answer(event, call)
    return listing_answer(event, call)


def counted_answer(event, call):
    answer = event_answer(event, call)
    if answer[0] == 0 and call.number in CALLS_THAT_CHANGE:
        event.changes = event.changes + 1
    return answer


def answer_to(desk, call):
    """The numbers answered to one call, which takes effect if it is not refused."""
    if not is_in_range(call):
        return [OUT_OF_RANGE]
    if call.number == NEW:
        desk.event = Event(call.plain[0], call.plain[1])
        return [0]
    if desk.event is None:
        return [NO_EVENT]
    return counted_answer(desk.event, call)


def answers(calls):
    """For each call in the flat list, in order: how many numbers are answered, and these."""
    desk = Desk()
    told = []
    for call in read_calls(calls):
        answer = answer_to(desk, call)
        told.append(len(answer))
        told.extend(answer)
    return told
