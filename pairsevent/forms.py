"""The forms of the calls: how they are read from one flat list, and the ranges of their numbers."""

NEW = 0
SIT = 1
UNSIT = 2
RESULT = 3
PLAYED = 4
PASSED = 5
AVERAGE = 6
FOUL = 7
REMOVE = 8
ADJUST = 9
APPEAL = 10
RULING = 11
TOTAL = 12
STANDINGS = 13
POST = 14
POSTED = 15
SCORE = 16
SHEET = 17
MET = 18
SITTINGS = 19
MISSING = 20
CHANGES = 21

# For each call the first and the last number that each of its plain arguments may be.
RANGES = {
    0: ((2, 40), (1, 40)),
    1: ((1, 40), (1, 20), (1, 40), (1, 40), (1, 40), (1, 40)),
    2: ((1, 40), (1, 20)),
    3: ((1, 40), (1, 20), (1, 40)),
    4: ((1, 40), (1, 20), (1, 40), (1, 7), (0, 4), (0, 2), (0, 3), (0, 13)),
    5: ((1, 40), (1, 20), (1, 40)),
    6: ((1, 40), (1, 20), (1, 40), (0, 100), (0, 100)),
    7: ((1, 40), (1, 20), (1, 40), (0, 9)),
    8: ((1, 40), (1, 20), (1, 40)),
    9: ((1, 40), (-100000, 100000)),
    10: ((1, 40), (1, 20), (1, 40)),
    11: ((1, 40), (1, 20), (1, 40)),
    12: ((1, 40),),
    13: (),
    14: (),
    15: ((1, 50),),
    16: ((1, 40), (1, 40)),
    17: ((1, 40),),
    18: ((1, 40), (1, 40)),
    19: ((1, 40),),
    20: (),
    21: (),
    22: (),
}

CALLS_WITH_ROW = (3, 11)
ROW_LENGTHS = (2, 4, 6, 8)
WEIGHT_RANGE = (1, 1000)
SCORE_RANGE = (-20000, 20000)


class Call:
    """One call: its number, its plain arguments, and its row (empty where the call has none)."""

    def __init__(self, number, plain, row):
        self.number = number
        self.plain = plain
        self.row = row


def read_calls(numbers):
    """The calls that stand one behind another in a flat list."""
    calls = []
    start = 0
    while start < len(numbers):
        number = numbers[start]
        plain_end = start + 1 + len(RANGES[number])
        row_start = plain_end
        row_end = plain_end
        if number in CALLS_WITH_ROW:
            row_start = plain_end + 1
            row_end = row_start + numbers[plain_end]
        calls.append(Call(number, numbers[start + 1:plain_end], numbers[row_start:row_end]))
        start = row_end
    return calls


def is_within(number, bounds):
    return number >= bounds[0] and number <= bounds[1]


def is_plain_in_range(call):
    for number, bounds in zip(call.plain, RANGES[call.number]):
        if not is_within(number, bounds):
            return False
    return True


def outcomes_of(row):
    """The outcomes in a row, each as its weight and its score."""
    return [(row[k], row[k + 1]) for k in range(0, len(row), 2)]


def is_row_in_range(row):
    if len(row) not in ROW_LENGTHS:
        return False
    for weight, score in outcomes_of(row):
        if not is_within(weight, WEIGHT_RANGE) or not is_within(score, SCORE_RANGE):
            return False
    return True


def is_in_range(call):
    if call.number in CALLS_WITH_ROW and not is_row_in_range(call.row):
        return False
    return is_plain_in_range(call)
