"""The calls on a place: what is entered there, its group, its appeal and its ruling."""

from pairsevent.contract import north_south_score
from pairsevent.event import ArtificialEntry, RealEntry, is_given
from pairsevent.forms import APPEAL, AVERAGE, FOUL, PASSED, PLAYED, REMOVE, RESULT, RULING, outcomes_of
from pairsevent.refusals import NO_ENTRY, NOT_GIVEN, NOT_UNDER_APPEAL, UNDER_APPEAL
from pairsevent.sheets import reckon


def place_of(call):
    return (call.plain[0], call.plain[1], call.plain[2])


def place_refusal(event, number, place):
    """The number by which this call on the place is refused, or 0."""
    if not is_given(event, place):
        return NOT_GIVEN
    if number == RULING:
        return 0 if place in event.appeals else NOT_UNDER_APPEAL
    if place in event.appeals:
        return UNDER_APPEAL
    if number in (FOUL, REMOVE, APPEAL) and place not in event.entries:
        return NO_ENTRY
    return 0


def group_at(event, place):
    """The group that a new entry of the place takes over from an older one."""
    if place in event.entries:
        return event.entries[place].group
    return 0


def enter_result(event, place, outcomes):
    event.entries[place] = RealEntry(group_at(event, place), outcomes)


def enter_average(event, place, ns_per_cent, ew_per_cent):
    event.entries[place] = ArtificialEntry(group_at(event, place), ns_per_cent, ew_per_cent)


def enter_played(event, place, plain):
    """Enters the contract's score and answers it."""
    score = north_south_score(place[2], plain[3], plain[4], plain[5], plain[6], plain[7])
    enter_result(event, place, [(1, score)])
    return score


def set_group(event, place, group):
    entry = event.entries[place]
    entry.group = group


def carry_out(event, call, place):
    if call.number == PLAYED:
        return [0, enter_played(event, place, call.plain)]
    if call.number == RESULT:
        enter_result(event, place, outcomes_of(call.row))
    elif call.number == PASSED:
        enter_result(event, place, [(1, 0)])
    elif call.number == AVERAGE:
        enter_average(event, place, call.plain[3], call.plain[4])
    elif call.number == FOUL:
        set_group(event, place, call.plain[3])
    elif call.number == REMOVE:
        event.entries.pop(place)
    elif call.number == APPEAL:
        event.appeals.append(place)
    elif call.number == RULING:
        event.appeals.remove(place)
        enter_result(event, place, outcomes_of(call.row))
    return [0]


def place_answer(event, call):
    """The answer to one of the calls 3 to 8, 10 and 11."""
    place = place_of(call)
    refusal = place_refusal(event, call.number, place)
    if refusal != 0:
        return [refusal]
    answer = carry_out(event, call, place)
    reckon(event, place[2])
    return answer
