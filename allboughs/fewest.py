"""Plans of fewest moves, looked for among all lots of rows of a small game."""

from allboughs.errors import TooMany
from allboughs.games import check_game, check_row, settled_game
from allboughs.regions import Arena

MOST_ROWS = 12


def moves_within(rows, lot, side):
    """The moves of a plan of this side in which just the rows of the lot stand; None if there is none.

    The side stays within the lot, and all goals of the other side's rows have to stand in it.
    """
    numbers = {row: at for at, row in enumerate(lot)}
    goals = []
    for row in lot:
        inner = [numbers[goal] for goal in rows[row][2] if goal in numbers]
        if not inner or rows[row][0] != side and len(inner) < len(rows[row][2]):
            return None
        goals.append(inner)
    arena = Arena([rows[row][0] for row in lot], [rows[row][1] for row in lot], goals)
    if any(winning != side for winning in arena.winners):
        return None
    return tuple([(row, lot[arena.picks[at]] if rows[row][0] == side else None) for at, row in enumerate(lot)])


def lots_of(rows, many):
    """All tuples of so many of the rows, in their sequence."""
    lots = [()]
    for at, row in enumerate(rows):
        left = len(rows) - at - 1
        lots = lots + [lot + (row,) for lot in lots if len(lot) < many]
        lots = [lot for lot in lots if len(lot) + left >= many]
    return lots


def fewest(game, row):
    """A plan in which the row stands, of no more moves than any other such plan."""
    check_game(game)
    check_row(game, row)
    rows = game[1]
    if len(rows) > MOST_ROWS:
        raise TooMany(MOST_ROWS)
    winners = settled_game(game).winners
    side = winners[row]
    others = [at for at, winning in enumerate(winners) if winning == side and at != row]
    for many in range(len(others) + 1):
        for more in lots_of(others, many):
            moves = moves_within(rows, sorted([row, *more]), side)
            if moves is not None:
                return ("plan", side, moves)
    # Never: all rows from which the side wins are the lot of such a plan.
    return None
