"""Promise 4: the scores of contracts."""

import unittest

from tests.helper import ask, last, new, played, sit

# Boards that nobody, north and south, east and west, all are vulnerable on.
NOBODY, NORTH_SOUTH, EAST_WEST, ALL = 1, 2, 3, 4
KINDS = "NSEA" "SEAN" "EANS" "ANSE"
WORDS = {"N": (False, False), "S": (True, False), "E": (False, True), "A": (True, True)}

# level, strain, doubled, tricks, the score not vulnerable, the score vulnerable
KNOWN = [
    (1, 0, 0, 7, 70, 70),
    (1, 1, 0, 8, 90, 90),
    (1, 2, 0, 7, 80, 80),
    (1, 3, 0, 9, 140, 140),
    (1, 4, 0, 7, 90, 90),
    (2, 2, 0, 8, 110, 110),
    (2, 3, 0, 10, 170, 170),
    (2, 4, 0, 8, 120, 120),
    (3, 0, 0, 9, 110, 110),
    (3, 2, 0, 9, 140, 140),
    (3, 4, 0, 9, 400, 600),
    (3, 4, 0, 13, 520, 720),
    (4, 1, 0, 10, 130, 130),
    (4, 2, 0, 10, 420, 620),
    (4, 3, 0, 11, 450, 650),
    (5, 0, 0, 11, 400, 600),
    (5, 1, 0, 12, 420, 620),
    (6, 0, 0, 12, 920, 1370),
    (6, 2, 0, 12, 980, 1430),
    (6, 3, 0, 13, 1010, 1460),
    (6, 4, 0, 12, 990, 1440),
    (7, 1, 0, 13, 1440, 2140),
    (7, 3, 0, 13, 1510, 2210),
    (7, 4, 0, 13, 1520, 2220),
    (1, 0, 1, 7, 140, 140),
    (1, 0, 1, 8, 240, 340),
    (1, 2, 1, 7, 160, 160),
    (1, 4, 1, 7, 180, 180),
    (2, 1, 1, 8, 180, 180),
    (2, 2, 1, 8, 470, 670),
    (2, 2, 1, 9, 570, 870),
    (3, 4, 1, 9, 550, 750),
    (4, 3, 1, 10, 590, 790),
    (6, 4, 1, 12, 1230, 1680),
    (7, 4, 1, 13, 1790, 2490),
    (1, 0, 2, 7, 230, 230),
    (1, 0, 2, 8, 430, 630),
    (1, 0, 2, 13, 1430, 2630),
    (1, 3, 2, 7, 520, 720),
    (1, 3, 2, 8, 720, 1120),
    (1, 4, 2, 7, 560, 760),
    (2, 0, 2, 8, 560, 760),
    (4, 3, 2, 10, 880, 1080),
    (7, 4, 2, 13, 2280, 2980),
    (4, 3, 0, 9, -50, -100),
    (4, 3, 0, 8, -100, -200),
    (7, 4, 0, 0, -650, -1300),
    (1, 0, 0, 0, -350, -700),
    (4, 3, 1, 9, -100, -200),
    (4, 3, 1, 8, -300, -500),
    (4, 3, 1, 7, -500, -800),
    (4, 3, 1, 6, -800, -1100),
    (4, 3, 1, 5, -1100, -1400),
    (7, 0, 1, 0, -3500, -3800),
    (4, 3, 2, 9, -200, -400),
    (4, 3, 2, 8, -600, -1000),
    (4, 3, 2, 7, -1000, -1600),
    (4, 3, 2, 6, -1600, -2200),
    (7, 0, 2, 0, -7000, -7600),
]


def reckoned(level, strain, doubled, vulnerable, tricks):
    """The score in another way than the program's: each trick counted by itself."""
    above = tricks - level - 6
    if above < 0:
        steps = [50] * 13
        if vulnerable:
            steps = [100] * 13
        if doubled:
            steps = [200] + [300] * 12 if vulnerable else [100, 200, 200] + [300] * 10
        return -sum(steps[:-above]) * (2 if doubled == 2 else 1)
    tricks_for = [{0: 20, 1: 20, 2: 30, 3: 30, 4: 30}[strain]] * level
    if strain == 4:
        tricks_for[0] = 40
    points = sum(tricks_for) << doubled
    score = points + (50 if points < 100 else 500 if vulnerable else 300)
    score += {6: (500, 750), 7: (1000, 1500)}.get(level, (0, 0))[int(vulnerable)]
    score += (0, 50, 100)[doubled]
    plain = 20 if strain < 2 else 30
    for trick in range(above):
        score += (plain, (100, 200)[int(vulnerable)], (200, 400)[int(vulnerable)])[doubled]
    return score


def score_of(board, level, strain, doubled, declarer, tricks):
    told = last(new(), sit(1, 1, 1, 2, 1, 40), played(1, 1, board, level, strain, doubled, declarer, tricks))
    assert told[0] == 0 and len(told) == 2, told
    return told[1]


class Known(unittest.TestCase):
    def test_north_plays(self):
        for level, strain, doubled, tricks, not_vulnerable, vulnerable in KNOWN:
            contract = (level, strain, doubled, tricks)
            self.assertEqual(score_of(NOBODY, level, strain, doubled, 0, tricks), not_vulnerable, contract)
            self.assertEqual(score_of(ALL, level, strain, doubled, 0, tricks), vulnerable, contract)

    def test_all_declarers_on_all_kinds_of_boards(self):
        for level, strain, doubled, tricks, not_vulnerable, vulnerable in KNOWN:
            for declarer in (0, 2):
                for board, score in ((NOBODY, not_vulnerable), (NORTH_SOUTH, vulnerable),
                                     (EAST_WEST, not_vulnerable), (ALL, vulnerable)):
                    self.assertEqual(score_of(board, level, strain, doubled, declarer, tricks), score)
            for declarer in (1, 3):
                for board, score in ((NOBODY, -not_vulnerable), (NORTH_SOUTH, -not_vulnerable),
                                     (EAST_WEST, -vulnerable), (ALL, -vulnerable)):
                    self.assertEqual(score_of(board, level, strain, doubled, declarer, tricks), score)


class Every(unittest.TestCase):
    def test_every_contract(self):
        cases = [(board, level, strain, doubled, declarer, tricks)
                 for board in (NOBODY, NORTH_SOUTH, EAST_WEST, ALL) for level in range(1, 8) for strain in range(5)
                 for doubled in range(3) for declarer in range(4) for tricks in range(14)]
        for start in range(0, len(cases), 398):
            part = cases[start:start + 398]
            told = ask(new(), sit(1, 1, 1, 2, 1, 40), *[played(1, 1, *case) for case in part])
            for case, answer in zip(part, told[2:], strict=True):
                board, level, strain, doubled, declarer, tricks = case
                vulnerable = WORDS[KINDS[board - 1]][declarer % 2]
                score = reckoned(level, strain, doubled, vulnerable, tricks)
                self.assertEqual(answer, [0, score if declarer in (0, 2) else -score], case)

    def test_vulnerability_of_every_board(self):
        for board in range(1, 41):
            sides = WORDS[KINDS[(board - 1) % 16]]
            for declarer in range(4):
                loss = 100 if sides[declarer % 2] else 50
                score = score_of(board, 1, 0, 0, declarer, 6)
                self.assertEqual(score, -loss if declarer in (0, 2) else loss, (board, declarer))


if __name__ == "__main__":
    unittest.main()
