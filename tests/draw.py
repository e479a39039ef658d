"""Draws lines of calls, many of them refused."""

from tests.helper import FAR, adjust, appeal, appeals, average, changes, foul, met, missing, mitchell, new, passed
from tests.helper import played, post, posted, remove, result, ruling, score, sheet, sit, sittings, standings, total
from tests.helper import unsit


def drawn_place(draw):
    return draw.randint(1, 2), draw.randint(1, 3), draw.randint(1, 5)


def drawn_outcomes(draw):
    count = draw.choice((1, 1, 1, 2, 3, 4, 4, 5))
    outcomes = [draw.choice((1, 2, 7, 1000)) if k % 2 == 0 else draw.randint(-3, 3) * 100 for k in range(2 * count)]
    return outcomes + draw.choice(([], [], [], [1]))


def drawn_seating(draw):
    which = draw.randint(0, 19)
    if which == 0:
        return new(draw.randint(1, 6), draw.randint(2, 6))
    if which < 4:
        return unsit(draw.randint(1, 3), draw.randint(1, 3))
    return sit(draw.randint(1, 3), draw.randint(1, 3), draw.randint(1, 6), draw.randint(1, 6),
               draw.randint(1, 5), draw.randint(1, 3))


def drawn_entering(draw, place):
    return draw.choice((
        result(*place, drawn_outcomes(draw)),
        played(*place, draw.randint(1, 7), draw.randint(0, 4), draw.randint(0, 2), draw.randint(0, 3),
               draw.randint(0, 14)),
        passed(*place),
        average(*place, draw.randint(0, 101), draw.randint(0, 100)),
    ))


def drawn_on_a_place(draw):
    place = drawn_place(draw)
    if draw.random() < 0.45:
        return drawn_entering(draw, place)
    return draw.choice((
        foul(*place, draw.randint(0, 10)),
        remove(*place),
        remove(*place),
        adjust(draw.randint(1, 7), draw.choice((5, -FAR))),
        appeal(*place),
        ruling(*place, drawn_outcomes(draw)),
        ruling(*place, drawn_outcomes(draw)),
    ))


def drawn_asking(draw):
    pair = draw.randint(1, 9)
    board = draw.randint(1, 7)
    return draw.choice((total(pair), standings(), post(), posted(draw.randint(0, 9)), score(board, pair),
                        score(board, draw.randint(1, 6)), sheet(board), met(pair, draw.randint(0, 9)), sittings(pair),
                        missing(), changes(), appeals()))


def drawn_line(draw):
    """A line in which the seating changes ever again, so that few boards have several entries."""
    calls = [new(5, 5)] + [drawn_seating(draw) for k in range(30)]
    for k in range(200):
        chance = draw.random()
        if chance < 0.1:
            calls.append(drawn_seating(draw))
        elif chance < 0.3:
            calls.append(drawn_asking(draw))
        else:
            calls.append(drawn_on_a_place(draw))
    return calls


def drawn_change(draw, tables, rounds, boards):
    turn = draw.randint(1, rounds)
    place = turn, draw.randint(1, tables), draw.randint((turn - 1) * boards + 1, turn * boards)
    chance = draw.random()
    if chance < 0.6:
        return drawn_entering(draw, place)
    if chance < 0.7:
        return foul(*place, draw.choice((0, 0, 1, 9)))
    if chance < 0.75:
        return remove(*place)
    if chance < 0.85:
        return adjust(draw.randint(1, 2 * tables), draw.choice((0, 1, -100, 250, -99999, 100000)))
    if chance < 0.9:
        return appeal(*place)
    return ruling(*place, drawn_outcomes(draw))


def drawn_mitchell(draw):
    """A line of few refusals, with several entries on each board."""
    tables, rounds, boards = draw.randint(2, 4), draw.randint(1, 2), draw.randint(1, 2)
    calls = [new(2 * tables + draw.randint(0, 1), rounds * boards + draw.randint(0, 1))]
    calls += mitchell(tables, rounds, boards)
    for k in range(100):
        calls.append(drawn_asking(draw) if draw.random() < 0.4 else drawn_change(draw, tables, rounds, boards))
    return calls + [standings()]
