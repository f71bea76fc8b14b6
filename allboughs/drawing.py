"""How fast a side can make each play come to some rows of a game."""

from allboughs.checks import is_number, is_numbers
from allboughs.errors import BadAims, BadSide
from allboughs.games import check_game


def check_side(side):
    """Raise BadSide for what is neither 0 nor 1."""
    if not is_number(side, 2):
        raise BadSide("neither 0 nor 1")


def sources_of(rows):
    """For each row of a game the rows that lead to it."""
    sources = [[] for _ in rows]
    for at, row in enumerate(rows):
        for goal in row[2]:
            sources[goal].append(at)
    return sources


def drawn(game, side, aims):
    """For each row the fewest steps within which the side can make each play come to aims; None if it cannot."""
    check_game(game)
    check_side(side)
    rows = game[1]
    if not is_numbers(aims, len(rows)):
        raise BadAims("not an ascending tuple of numbers of rows")
    sources = sources_of(rows)
    told = [None] * len(rows)
    for aim in aims:
        told[aim] = 0
    left = [len(goals) for _, _, goals in rows]
    order = list(aims)
    at = 0
    # The rows are met by their numbers of steps, so the last goal of a row of the other side is its slowest one.
    while at < len(order):
        goal = order[at]
        at += 1
        for row in sources[goal]:
            left[row] -= 1
            if told[row] is None and (rows[row][0] == side or left[row] == 0):
                told[row] = told[goal] + 1
                order.append(row)
    return tuple(told)
