"""Totals and standings, and the calls total, standings, post and posted."""

from pairsevent.event import is_pair
from pairsevent.forms import POST, STANDINGS, TOTAL
from pairsevent.fraction import is_greater, lowest, plus, rounded
from pairsevent.refusals import FULL, NO_SUCH_PAIR, NOT_POSTED

MOST_POSTED = 50


class PairTotal:
    """What a pair has: its points, a fraction, and its tops."""

    def __init__(self, pair, points, tops):
        self.pair = pair
        self.points = points
        self.tops = tops


def total_of(event, pair):
    points = (event.adjustments.get(pair, 0), 100)
    tops = 0
    for sheet in event.sheets.values():
        if pair in sheet.brought:
            points = plus(points, sheet.brought[pair])
            tops = tops + sheet.top
    return PairTotal(pair, points, tops)


def share_of(total):
    """Points divided by tops, for a pair that has tops."""
    return (total.points[0], total.points[1] * total.tops)


def percentage_of(share):
    return rounded((10000 * share[0], share[1]))


def rank_of(share, shares):
    return 1 + len([other for other in shares if is_greater(other, share)])


def standings(event):
    """The standings, three numbers for each pair: its rank, its number, its percentage."""
    totals = [total_of(event, pair) for pair in range(1, event.pairs + 1)]
    ranked = [total for total in totals if total.tops != 0]
    shares = [share_of(total) for total in ranked]
    rows = [(rank_of(share, shares), total.pair, percentage_of(share)) for total, share in zip(ranked, shares)]
    told = []
    for row in sorted(rows):
        told.extend(row)
    return told


def total_answer(event, pair):
    if not is_pair(event, pair):
        return [NO_SUCH_PAIR]
    total = total_of(event, pair)
    points = lowest(total.points)
    told = [0, points[0], points[1], total.tops]
    if total.tops != 0:
        told.append(percentage_of(share_of(total)))
    return told


def post_answer(event):
    if len(event.posted) >= MOST_POSTED:
        return [FULL]
    event.posted.append(standings(event))
    return [0, len(event.posted)]


def posted_answer(event, which):
    if which > len(event.posted):
        return [NOT_POSTED]
    return [0] + event.posted[which - 1]


def standing_answer(event, call):
    """The answer to one of the calls 12 to 15."""
    if call.number == TOTAL:
        return total_answer(event, call.plain[0])
    if call.number == STANDINGS:
        return [0] + standings(event)
    if call.number == POST:
        return post_answer(event)
    return posted_answer(event, call.plain[0])
