"""Levels of a side of a game: numbers by which it sees that it comes on, and the least of them."""

from allboughs.checks import is_number, is_row
from allboughs.drawing import check_side
from allboughs.games import check_game, settled_game
from allboughs.leveling import Leveling
from allboughs.lifting import Lifting, cuts_of

# So many times, on average, each row is lifted before another way is gone that takes its time, but always comes to
# an end soon.
PATIENCE = 8


def odds_of(rows, side):
    """The ranks of rows that a side does not like, the greater ones first."""
    return sorted({rank for _, rank, _ in rows if rank % 2 != side})[::-1]


def bounds_of(rows, odds):
    """For each of the odds how many rows have this rank."""
    many = {odd: 0 for odd in odds}
    for _, rank, _ in rows:
        if rank in many:
            many[rank] += 1
    return list(many.values())


def is_level(thing, bounds):
    """Whether it is a tuple of numbers none of which is above its bound."""
    if not is_row(thing, len(bounds), len(bounds)):
        return False
    return all(is_number(number, bound + 1) for number, bound in zip(thing, bounds))


def falls(ahead, behind, cut, is_odd):
    """Whether a row with the one tuple falls to a goal with the other one, both cut behind so many numbers."""
    if ahead is None or behind is None:
        return False
    return ahead[:cut] > behind[:cut] if is_odd else ahead[:cut] >= behind[:cut]


def are_levels(game, side, thing):
    """Whether a value of any kind is levels for a side."""
    check_game(game)
    check_side(side)
    rows = game[1]
    odds = odds_of(rows, side)
    bounds = bounds_of(rows, odds)
    if not is_row(thing, len(rows), len(rows)):
        return False
    if not all(level is None or is_level(level, bounds) for level in thing):
        return False
    cuts = cuts_of(rows, odds)
    for (owner, rank, goals), level in zip(rows, thing):
        if level is not None:
            fallen = [falls(level, thing[goal], cuts[rank], rank % 2 != side) for goal in goals]
            if not (any(fallen) if owner == side else all(fallen)):
                return False
    return True


def levels(game, side):
    """The least levels for a side: a tuple with None, or a tuple of numbers, for each row."""
    check_game(game)
    check_side(side)
    rows = game[1]
    odds = odds_of(rows, side)
    arena = settled_game(game)
    won = [row for row, winning in enumerate(arena.winners) if winning == side]
    lifting = Lifting(rows, side, odds, bounds_of(rows, odds), won)
    if lifting.lift(PATIENCE * len(rows)):
        return tuple([lifting.lifted.get(row) for row in range(len(rows))])
    counts = Leveling(rows, side, odds, arena).counts
    told = {row: tuple([numbers.get(odd, 0) for odd in odds]) for row, numbers in counts.items()}
    return tuple([told.get(row) for row in range(len(rows))])
