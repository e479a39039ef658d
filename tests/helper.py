"""Writes calls as a reader would tell them, and splits what the desk answers call by call."""

from pairsevent.desk import answers

FAR = 1000000000000000000


def new(n=40, b=40):
    return [0, n, b]


def sit(round_number, table, ns, ew, first=1, count=1):
    return [1, round_number, table, ns, ew, first, count]


def unsit(round_number, table):
    return [2, round_number, table]


def result(round_number, table, board, outcomes):
    return [3, round_number, table, board, len(outcomes)] + outcomes


def played(round_number, table, board, level, strain, doubled, declarer, tricks):
    return [4, round_number, table, board, level, strain, doubled, declarer, tricks]


def passed(round_number, table, board):
    return [5, round_number, table, board]


def average(round_number, table, board, ns=60, ew=40):
    return [6, round_number, table, board, ns, ew]


def foul(round_number, table, board, g=1):
    return [7, round_number, table, board, g]


def remove(round_number, table, board):
    return [8, round_number, table, board]


def adjust(pair, h):
    return [9, pair, h]


def appeal(round_number, table, board):
    return [10, round_number, table, board]


def ruling(round_number, table, board, outcomes):
    return [11, round_number, table, board, len(outcomes)] + outcomes


def total(pair):
    return [12, pair]


def standings():
    return [13]


def post():
    return [14]


def posted(k):
    return [15, k]


def score(board, pair):
    return [16, board, pair]


def sheet(board):
    return [17, board]


def met(p, q):
    return [18, p, q]


def sittings(pair):
    return [19, pair]


def missing():
    return [20]


def changes():
    return [21]


def appeals():
    return [22]


def line(calls):
    return [number for call in calls for number in call]


def split(told):
    parts = []
    at = 0
    while at < len(told):
        parts.append(told[at + 1:at + 1 + told[at]])
        at += 1 + told[at]
    return parts


def ask(*calls):
    """The answer to each of the calls."""
    parts = split(answers(line(calls)))
    assert len(parts) == len(calls), (parts, calls)
    return parts


def last(*calls):
    """The answer to the last of the calls; those ahead of it must not be refused."""
    parts = ask(*calls)
    for call, part in zip(calls[:-1], parts[:-1]):
        assert part[0] == 0, (call, part)
    return parts[-1]


def round_robin(rounds):
    """Sittings in which 40 pairs meet at 20 tables, each round with one board, nobody twice."""
    calls = []
    for turn in range(rounds):
        ring = [(turn + k) % 39 + 1 for k in range(39)]
        couples = [(40, ring[0])] + [(ring[k], ring[39 - k]) for k in range(1, 20)]
        for table, (ns, ew) in enumerate(couples, start=1):
            calls.append(sit(turn + 1, table, ns, ew, turn + 1, 1))
    return calls


def mitchell(tables, rounds, boards):
    """Sittings of so many rounds, in each of which all tables play the same boards."""
    return [sit(turn + 1, table + 1, table + 1, tables + 1 + (table + turn) % tables, turn * boards + 1, boards)
            for turn in range(rounds) for table in range(tables)]


def asks(pairs, boards):
    """Every call that only asks, of every pair and board that there is, and of the ones behind."""
    over_pairs = range(1, pairs + 2)
    over_boards = range(1, boards + 2)
    calls = [call(pair) for pair in over_pairs for call in (total, sittings)]
    calls += [sheet(board) for board in over_boards]
    calls += [score(board, pair) for board in over_boards for pair in over_pairs]
    calls += [met(p, q) for p in over_pairs for q in over_pairs]
    return calls + [standings(), missing(), changes(), appeals(), posted(1), posted(2), posted(3)]
