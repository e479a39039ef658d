"""What one event holds."""


class Event:
    """Entries are kept by their place: a round, a table and a board. Who was never adjusted has no adjustment.

    Sheets are kept by their board, as they are reckoned whenever one of its entries changes; a board at which nothing
    was ever entered has none. Posted standings are kept as the numbers that are told of them.
    """

    def __init__(self, pairs, boards):
        self.pairs = pairs
        self.boards = boards
        self.sittings = []
        self.entries = {}
        self.sheets = {}
        self.adjustments = {}
        self.appeals = []
        self.posted = []
        self.changes = 0


class Sitting:
    """A round, a table, its two pairs, and the first and the last of its boards."""

    def __init__(self, round_number, table, ns, ew, first, last):
        self.round_number = round_number
        self.table = table
        self.ns = ns
        self.ew = ew
        self.first = first
        self.last = last


class RealEntry:
    """A group and a result: outcomes, each a weight and a score for north and south."""

    def __init__(self, group, outcomes):
        self.group = group
        self.outcomes = outcomes


class ArtificialEntry:
    """A group and a per cent for each side."""

    def __init__(self, group, ns_per_cent, ew_per_cent):
        self.group = group
        self.ns_per_cent = ns_per_cent
        self.ew_per_cent = ew_per_cent


class Sheet:
    """A board's top, its lines in their order, and the matchpoints that it brings, by pair."""

    def __init__(self, top):
        self.top = top
        self.lines = []
        self.brought = {}


class SheetLine:
    """What a sheet tells of one entry: the two pairs of its place, its group, north and south's matchpoints."""

    def __init__(self, ns, ew, group, points):
        self.ns = ns
        self.ew = ew
        self.group = group
        self.points = points


def sitting_at(event, round_number, table):
    """The sitting of this round and table, or None."""
    for sitting in event.sittings:
        if sitting.round_number == round_number and sitting.table == table:
            return sitting
    return None


def is_given(event, place):
    sitting = sitting_at(event, place[0], place[1])
    if sitting is None:
        return False
    return sitting.first <= place[2] and place[2] <= sitting.last


def has_entries(event):
    return len(event.entries) > 0


def is_pair(event, pair):
    return pair <= event.pairs


def is_board(event, board):
    return board <= event.boards
