"""Judges of games, plans and rounds, written from the words of [10] and [12]."""

from tests.judging import has_round


def some_game(chance, many, ranks, most):
    """A game of so many rows."""
    rows = []
    for _ in range(many):
        goals = chance.sample(range(many), chance.randint(1, min(many, most)))
        rows.append((chance.randrange(2), chance.randrange(ranks), tuple(goals)))
    return ("game", tuple(rows))


def ways_of(game, plan):
    """The rows that stand in a plan, or a sketch, and to which rows each of them leads; None if it is no sketch."""
    word, side, moves = plan
    stands = [row for row, _ in moves]
    if word != "plan" or stands != sorted(set(stands)):
        return None
    ways = {}
    for row, goal in moves:
        owner, _, goals = game[1][row]
        if owner == side and (goal not in goals or goal not in stands):
            return None
        if owner != side and (goal is not None or not set(goals) <= set(stands)):
            return None
        ways[row] = [goal] if owner == side else list(goals)
    return ways


def good_plan(game, plan):
    """Whether a sketch is a plan."""
    ways = ways_of(game, plan)
    return ways is not None and not has_round(lambda row: game[1][row][1], ways, 1 - plan[1])


def won_by(game, side):
    """The rows from which a side wins, by least and greatest lots."""
    from tests.support import kept_spots

    rows = game[1]

    def fine(row, lot):
        join = any if rows[row][0] == side else all
        return join([goal in lot for goal in rows[row][2]])

    return kept_spots(range(len(rows)), lambda row: rows[row][1] + side, fine)


def is_round(ways, told):
    """Whether a tuple of rows is a round of unlike ones by these ways."""
    if not isinstance(told, tuple) or not told or len(set(told)) < len(told) or not set(told) <= set(ways):
        return False
    return all(told[(at + 1) % len(told)] in ways[row] for at, row in enumerate(told))
