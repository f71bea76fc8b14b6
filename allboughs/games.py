"""Games that go on for ever, and plans by which a side wins them."""

from allboughs.checks import ascends, is_headed, is_number, is_row
from allboughs.circles import found_round
from allboughs.errors import BadGame, BadRow, BadSketch, TooMany
from allboughs.regions import Arena

MOST_ROWS = 20000
MOST_GOALS = 4000
RANKS = 302


def are_goals(thing, many):
    """Whether it is a tuple of unlike numbers of so many rows, one at least."""
    if not is_row(thing, 1, MOST_GOALS) or not all(is_number(goal, many) for goal in thing):
        return False
    return len(set(thing)) == len(thing)


def is_game_row(thing, many):
    """Whether it is a row of a game of so many rows."""
    if not is_row(thing, 3, 3) or not is_number(thing[0], 2) or not is_number(thing[1], RANKS):
        return False
    return are_goals(thing[2], many)


def is_game(thing):
    """Whether a value of any kind is a game."""
    if not is_headed(thing, "game", 2) or not is_row(thing[1], 1, MOST_ROWS):
        return False
    return all(is_game_row(row, len(thing[1])) for row in thing[1])


def check_game(game):
    """Raise BadGame for what is no game."""
    if not is_game(game):
        raise BadGame("not a game")


def check_row(game, row):
    """Raise BadRow for what is no number of a row of the game."""
    if not is_number(row, len(game[1])):
        raise BadRow("not a number of a row")


def swapped(game):
    """The game with both sides exchanged and each rank one more."""
    check_game(game)
    if max([rank for _, rank, _ in game[1]]) == RANKS - 1:
        raise TooMany(RANKS - 1)
    return ("game", tuple([(1 - side, rank + 1, goals) for side, rank, goals in game[1]]))


def is_move(game_row, goal, side, stands):
    """Whether a goal is one for a row of a plan of a side, where stands tells which rows stand in it."""
    owner, _, goals = game_row
    if owner == side:
        return isinstance(goal, int) and not isinstance(goal, bool) and goal in goals and goal in stands
    return goal is None and all(onward in stands for onward in goals)


def is_sketch(game, thing):
    """Whether a value of any kind is a sketch for what is known to be a game."""
    if not is_headed(thing, "plan", 3) or not is_number(thing[1], 2) or not isinstance(thing[2], tuple):
        return False
    rows = game[1]
    _, side, moves = thing
    if not all(is_row(move, 2, 2) and is_number(move[0], len(rows)) for move in moves):
        return False
    if not ascends([row for row, _ in moves]):
        return False
    stands = {row: True for row, _ in moves}
    return all(is_move(rows[row], goal, side, stands) for row, goal in moves)


def wrong_round(game, sketch):
    """A round of a sketch with a greatest rank of the wrong kind; None if there is none."""
    _, side, moves = sketch
    known = [row for row, _ in moves]
    numbers = {row: at for at, row in enumerate(known)}
    goals = []
    for row, goal in moves:
        leads = game[1][row][2] if goal is None else (goal,)
        goals.append([numbers[onward] for onward in leads])
    found = found_round([game[1][row][1] for row in known], goals, 1 - side)
    return None if found is None else tuple([known[at] for at in found])


def is_plan_of(game, thing):
    """Whether a value of any kind is a plan of what is known to be a game."""
    return is_sketch(game, thing) and wrong_round(game, thing) is None


def is_plan(game, thing):
    """Whether a value of any kind is a plan of a game."""
    check_game(game)
    return is_plan_of(game, thing)


def settled_game(game):
    """The arena of what is known to be a game, in which it is known who wins and how."""
    rows = game[1]
    return Arena([side for side, _, _ in rows], [rank for _, rank, _ in rows], [goals for _, _, goals in rows])


def plan_in(arena, side):
    """The plan of a side with all rows from which it wins in an arena."""
    moves = []
    for row, winning in enumerate(arena.winners):
        if winning == side:
            moves.append((row, arena.picks[row] if arena.sides[row] == side else None))
    return ("plan", side, tuple(moves))


def plans(game):
    """The pair of a plan of the keeper and one of the breaker; each row stands in just one of them."""
    check_game(game)
    arena = settled_game(game)
    return (plan_in(arena, 0), plan_in(arena, 1))


def winner(game, row):
    """The side that wins from a row."""
    check_game(game)
    check_row(game, row)
    return settled_game(game).winners[row]


def flaw(game, sketch):
    """None if a sketch is a plan, otherwise a round in it with a greatest rank of the wrong kind."""
    check_game(game)
    if not is_sketch(game, sketch):
        raise BadSketch("not a sketch")
    return wrong_round(game, sketch)
