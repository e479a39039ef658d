"""The document once more, told as plainly as it can be: whatever is asked is reckoned afresh from all that is kept."""

from fractions import Fraction
from math import floor

EDGES = {
    "round": (1, 40), "table": (1, 20), "board": (1, 40), "pair": (1, 40), "count": (1, 40), "n": (2, 40), "b": (1, 40),
    "level": (1, 7), "strain": (0, 4), "doubled": (0, 2), "declarer": (0, 3), "tricks": (0, 13), "per cent": (0, 100),
    "g": (0, 9), "h": (-100000, 100000), "k": (1, 50),
}
ARGUMENTS = [told.split(",") if told else [] for told in (
    "n,b", "round,table,pair,pair,board,count", "round,table", "round,table,board",
    "round,table,board,level,strain,doubled,declarer,tricks", "round,table,board",
    "round,table,board,per cent,per cent",
    "round,table,board,g", "round,table,board", "pair,h", "round,table,board", "round,table,board",
    "pair", "", "", "k", "board,pair", "board", "pair,pair", "pair", "", "", "")]


class Refused(Exception):
    pass


def refuse_if(wrong, number):
    if wrong:
        raise Refused(number)


def down(doubled, vulnerable, k):
    """What the k-th missing trick by itself counts."""
    if doubled == 0:
        return 100 if vulnerable else 50
    if vulnerable:
        return doubled * (200 if k == 1 else 300)
    return doubled * (100 if k == 1 else 200 if k <= 3 else 300)


def contract(level, strain, doubled, vulnerable, tricks):
    if tricks < level + 6:
        return -sum(down(doubled, vulnerable, k) for k in range(1, level + 6 - tricks + 1))
    points = (level * (20 if strain < 2 else 30) + (10 if strain == 4 else 0)) * 2 ** doubled
    told = points + (50 if points < 100 else 500 if vulnerable else 300) + 50 * doubled
    told += {6: 750 if vulnerable else 500, 7: 1500 if vulnerable else 1000}.get(level, 0)
    each = (20 if strain < 2 else 30) if doubled == 0 else 100 * doubled * (2 if vulnerable else 1)
    return told + each * (tricks - level - 6)


def north_south(board, level, strain, doubled, declarer, tricks):
    # The sixteen boards of a set, by who is vulnerable: o nobody, n north and south, e east and west, b all.
    sides = "onebneboebonbone"[(board - 1) % 16]
    vulnerable = sides == "b" or sides == ("n" if declarer in (0, 2) else "e")
    return contract(level, strain, doubled, vulnerable, tricks) * (1 if declarer in (0, 2) else -1)


def mean_of_versus(first, second):
    weights = sum(w for w, s in first) * sum(w for w, s in second)
    return Fraction(sum(w * v * ((s > t) - (s < t) + 1) for w, s in first for v, t in second), weights)


class Event:
    def __init__(self, n, b):
        self.n, self.b = n, b
        self.told = []
        self.entries = {}
        self.adjustment = {pair: 0 for pair in range(1, n + 1)}
        self.under_appeal = []
        self.posted = []
        self.changes = 0

    def given(self):
        return [(r, t, board) for r, t, ns, ew, first, count in self.told for board in range(first, first + count)]

    def pairs_at(self, place):
        return [(ns, ew) for r, t, ns, ew, first, count in self.told if (r, t) == place[:2]][0]

    def sheet(self, board):
        """The entries of a board: both pairs, the group, both sides' matchpoints; and the top."""
        there = {place: entry for place, entry in self.entries.items() if place[2] == board}
        top = 2 * (len(there) - 1)
        rows = []
        for place, (group, result, per_cents) in there.items():
            if result is None:
                both = [Fraction(per_cent * top, 100) for per_cent in per_cents]
            else:
                others = [r for p, (g, r, c) in there.items() if p != place and g == group and r is not None]
                m = sum((mean_of_versus(result, other) for other in others), Fraction(0))
                ns = (m + 1) * len(there) / (len(others) + 1) - 1
                both = [ns, top - ns]
            rows.append((*self.pairs_at(place), group, *both))
        return sorted(rows), top

    def total(self, pair):
        points, tops = Fraction(self.adjustment[pair], 100), 0
        for board in range(1, self.b + 1):
            rows, top = self.sheet(board)
            for ns, ew, group, for_ns, for_ew in rows:
                if pair in (ns, ew):
                    points += for_ns if pair == ns else for_ew
                    tops += top
        return points, tops

    def standings(self):
        totals = {pair: self.total(pair) for pair in range(1, self.n + 1)}
        shares = {pair: points / tops for pair, (points, tops) in totals.items() if tops != 0}
        order = sorted(shares, key=lambda pair: (-shares[pair], pair))
        return [number for pair in order for number in (
            1 + sum(other > shares[pair] for other in shares.values()), pair, percentage(shares[pair]))]


def percentage(share):
    return floor(share * 10000 + Fraction(1, 2))


def both_numbers(fraction):
    return [fraction.numerator, fraction.denominator]


def check_ranges(number, plain, row):
    for name, value in zip(ARGUMENTS[number], plain):
        refuse_if(not EDGES[name][0] <= value <= EDGES[name][1], -1)
    if number in (3, 11):
        refuse_if(len(row) not in (2, 4, 6, 8), -1)
        refuse_if(any(not 1 <= weight <= 1000 for weight in row[0::2]), -1)
        refuse_if(any(not -20000 <= score <= 20000 for score in row[1::2]), -1)


def sit(event, r, t, ns, ew, first, count):
    boards = set(range(first, first + count))
    refuse_if(event.entries, -4)
    refuse_if(ns == ew or ns > event.n or ew > event.n, -5)
    refuse_if(max(boards) > event.b, -10)
    refuse_if(any(o[0] == r and (o[1] == t or {ns, ew} & {o[2], o[3]}) for o in event.told), -6)
    refuse_if(any({ns, ew} & {o[2], o[3]} and boards & set(range(o[4], o[4] + o[5])) for o in event.told), -7)
    refuse_if(any({ns, ew} == {o[2], o[3]} for o in event.told), -8)
    refuse_if(len(event.told) == 400, -9)
    event.told.append((r, t, ns, ew, first, count))
    return []


def unsit(event, r, t):
    refuse_if(event.entries, -4)
    there = [o for o in event.told if o[:2] == (r, t)]
    refuse_if(not there, -11)
    event.told.remove(there[0])
    return []


def on_a_place(event, number, place, rest, row):
    refuse_if(place not in event.given(), -11)
    refuse_if(number != 11 and place in event.under_appeal, -12)
    refuse_if(number == 11 and place not in event.under_appeal, -14)
    refuse_if(number in (7, 8, 10) and place not in event.entries, -13)
    group, result, per_cents = event.entries.get(place, (0, None, None))
    outcomes = list(zip(row[0::2], row[1::2]))
    if number == 4:
        outcomes = [(1, north_south(place[2], *rest))]
    if number == 5:
        outcomes = [(1, 0)]
    if number in (3, 4, 5, 11):
        event.entries[place] = (group, outcomes, None)
    if number == 6:
        event.entries[place] = (group, None, rest)
    if number == 7:
        event.entries[place] = (rest[0], result, per_cents)
    if number == 8:
        event.entries.pop(place)
    if number == 10:
        event.under_appeal.append(place)
    if number == 11:
        event.under_appeal.remove(place)
    event.changes += number != 10
    return [outcomes[0][1]] if number == 4 else []


def adjust(event, pair, h):
    refuse_if(pair > event.n, -5)
    event.adjustment[pair] = h
    event.changes += 1
    return []


def total(event, pair):
    refuse_if(pair > event.n, -5)
    points, tops = event.total(pair)
    return both_numbers(points) + ([tops, percentage(points / tops)] if tops else [0])


def post(event):
    refuse_if(len(event.posted) == 50, -9)
    event.posted.append(tuple(event.standings()))
    return [len(event.posted)]


def posted(event, k):
    refuse_if(len(event.posted) < k, -15)
    return list(event.posted[k - 1])


def score(event, board, pair):
    refuse_if(board > event.b, -10)
    refuse_if(pair > event.n, -5)
    of_it = [ns_score if pair == ns else ew_score
             for ns, ew, group, ns_score, ew_score in event.sheet(board)[0] if pair in (ns, ew)]
    refuse_if(not of_it, -13)
    return both_numbers(of_it[0])


def sheet(event, board):
    refuse_if(board > event.b, -10)
    return [number for row in event.sheet(board)[0] for number in [*row[:3], *both_numbers(row[3])]]


def met(event, p, q):
    there = [o[:2] for o in event.told if (p, q) in ((o[2], o[3]), (o[3], o[2]))]
    return list(there[0]) if there else [0, 0]


def sittings(event, pair):
    refuse_if(pair > event.n, -5)
    return [number for r, t, ns, ew, first, count in event.told if pair in (ns, ew)
            for number in (r, t, int(pair == ew), ns + ew - pair, first, count)]


def missing(event):
    return [number for place in event.given() if place not in event.entries for number in place]


def appeals(event):
    return [number for place in event.under_appeal for number in place]


ASKING = {12: total, 13: Event.standings, 14: post, 15: posted, 16: score, 17: sheet, 18: met, 19: sittings,
          20: missing, 21: lambda event: [event.changes], 22: appeals}


class Model:
    def __init__(self):
        self.event = None

    def told(self, call):
        number, plain = call[0], call[1:1 + len(ARGUMENTS[call[0]])]
        row = call[2 + len(plain):]
        check_ranges(number, plain, row)
        if number == 0:
            self.event = Event(*plain)
            return []
        refuse_if(self.event is None, -3)
        if number in (1, 2, 9):
            return {1: sit, 2: unsit, 9: adjust}[number](self.event, *plain)
        if number < 12:
            return on_a_place(self.event, number, tuple(plain[:3]), plain[3:], row)
        return ASKING[number](self.event, *plain)

    def answer(self, call):
        try:
            return [0] + self.told(call)
        except Refused as refusal:
            return [refusal.args[0]]


def model_answers(calls):
    model = Model()
    return [model.answer(call) for call in calls]
