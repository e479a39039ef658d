"""The boards' sheets: how their matchpoints are reckoned, and the calls score and sheet."""

from pairsevent.event import RealEntry, Sheet, SheetLine, is_board, is_pair
from pairsevent.forms import SCORE
from pairsevent.fraction import lowest, plus
from pairsevent.refusals import NO_ENTRY, NO_SUCH_BOARD, NO_SUCH_PAIR


def versus(score, other):
    if score > other:
        return 2
    return 1 if score == other else 0


def weight_of(outcomes):
    return sum([weight for weight, score in outcomes])


def mean_of_versus(outcomes, others):
    total = 0
    for weight, score in outcomes:
        for other_weight, other_score in others:
            total = total + weight * other_weight * versus(score, other_score)
    return (total, weight_of(outcomes) * weight_of(others))


def results_to_compare(entries, at):
    """The results of the other real entries that are of this entry's group."""
    group = entries[at].group
    others = [entry for k, entry in enumerate(entries) if k != at and isinstance(entry, RealEntry)]
    return [entry.outcomes for entry in others if entry.group == group]


def real_points(entries, at):
    """North and south's matchpoints of a real entry."""
    others = results_to_compare(entries, at)
    compared = (0, 1)
    for other in others:
        compared = plus(compared, mean_of_versus(entries[at].outcomes, other))
    above = plus(compared, (1, 1))
    return lowest(plus((above[0] * len(entries), above[1] * (len(others) + 1)), (-1, 1)))


def both_points(entries, at, top):
    """The matchpoints of an entry, for north and south and for east and west."""
    entry = entries[at]
    if isinstance(entry, RealEntry):
        points = real_points(entries, at)
        return (points, (top * points[1] - points[0], points[1]))
    return (lowest((entry.ns_per_cent * top, 100)), lowest((entry.ew_per_cent * top, 100)))


def north_south_pair(sitting):
    return sitting.ns


def place_in(sitting, board):
    return (sitting.round_number, sitting.table, board)


def sittings_entered(event, board):
    """The sittings of which this board has an entry, those of smaller north-south pairs first."""
    entered = [sitting for sitting in event.sittings if place_in(sitting, board) in event.entries]
    return sorted(entered, key=north_south_pair)


def reckon(event, board):
    """Reckons the board's sheet anew from its entries; to be done whenever one of them has changed."""
    sittings = sittings_entered(event, board)
    entries = [event.entries[place_in(sitting, board)] for sitting in sittings]
    sheet = Sheet(2 * (len(entries) - 1))
    for at, sitting in enumerate(sittings):
        points = both_points(entries, at, sheet.top)
        sheet.lines.append(SheetLine(sitting.ns, sitting.ew, entries[at].group, points[0]))
        sheet.brought[sitting.ns] = points[0]
        sheet.brought[sitting.ew] = points[1]
    event.sheets[board] = sheet


def score_answer(event, board, pair):
    if not is_board(event, board):
        return [NO_SUCH_BOARD]
    if not is_pair(event, pair):
        return [NO_SUCH_PAIR]
    if board not in event.sheets or pair not in event.sheets[board].brought:
        return [NO_ENTRY]
    points = event.sheets[board].brought[pair]
    return [0, points[0], points[1]]


def sheet_answer(event, board):
    if not is_board(event, board):
        return [NO_SUCH_BOARD]
    told = [0]
    if board in event.sheets:
        for line in event.sheets[board].lines:
            told.extend([line.ns, line.ew, line.group, line.points[0], line.points[1]])
    return told


def board_answer(event, call):
    """The answer to one of the calls 16 and 17."""
    if call.number == SCORE:
        return score_answer(event, call.plain[0], call.plain[1])
    return sheet_answer(event, call.plain[0])
