"""The scores of contracts, and the vulnerability of boards."""

NO_TRUMPS = 4
UNDOUBLED = 0
ALL_VULNERABLE = 3

# By strain: clubs, diamonds, hearts, spades, no trumps.
POINTS_A_LEVEL = (20, 20, 30, 30, 30)
POINTS_A_TRICK_ABOVE = (20, 20, 30, 30, 30)
# By undoubled, doubled, redoubled.
TIMES = (1, 2, 4)
DOUBLING_BONUS = (0, 50, 100)


def vulnerability(board):
    """0 nobody, 1 north and south, 2 east and west, 3 all."""
    return ((board + 3) % 4 + (board + 15) // 4 % 4) % 4


def side_of(declarer):
    """0 for north and south, 1 for east and west."""
    return declarer % 2


def is_vulnerable(board, side):
    told = vulnerability(board)
    return told == ALL_VULNERABLE or told == side + 1


def doubled_loss(vulnerable, missing):
    if vulnerable:
        return 200 + 300 * (missing - 1)
    return 100 + 200 * (min(missing, 3) - 1) + 300 * max(missing - 3, 0)


def loss(doubled, vulnerable, missing):
    """What counts against a side for tricks that are missing; at least one is."""
    if doubled == UNDOUBLED:
        return (100 if vulnerable else 50) * missing
    # Doubled is told by 1 and redoubled by 2, which is also how many times the loss counts.
    return doubled * doubled_loss(vulnerable, missing)


def contract_points(level, strain, doubled):
    points = POINTS_A_LEVEL[strain] * level
    if strain == NO_TRUMPS:
        points = points + 10
    return points * TIMES[doubled]


def game_bonus(points, vulnerable):
    if points < 100:
        return 50
    return 500 if vulnerable else 300


def slam_bonus(level, vulnerable):
    if level == 6:
        return 750 if vulnerable else 500
    if level == 7:
        return 1500 if vulnerable else 1000
    return 0


def trick_above(strain, doubled, vulnerable):
    """What one trick above those needed brings."""
    if doubled == UNDOUBLED:
        return POINTS_A_TRICK_ABOVE[strain]
    # As at a loss, redoubled counts twice what doubled does.
    return doubled * (200 if vulnerable else 100)


def contract_score(level, strain, doubled, vulnerable, tricks):
    """The score for the side that plays the contract."""
    above = tricks - (level + 6)
    if above < 0:
        return -loss(doubled, vulnerable, -above)
    points = contract_points(level, strain, doubled)
    bonus = game_bonus(points, vulnerable) + slam_bonus(level, vulnerable) + DOUBLING_BONUS[doubled]
    return points + bonus + above * trick_above(strain, doubled, vulnerable)


def north_south_score(board, level, strain, doubled, declarer, tricks):
    side = side_of(declarer)
    score = contract_score(level, strain, doubled, is_vulnerable(board, side), tricks)
    return score if side == 0 else -score
