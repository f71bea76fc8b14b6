"""What each row of a game is worth: the rank that both sides can hold there, again and again."""

from allboughs.checks import is_number, is_row
from allboughs.circles import has_round
from allboughs.covering import worth_of
from allboughs.games import RANKS, check_game
from allboughs.regions import Arena


def even_from(rank, worth):
    """A rank in the place of this one, so that what the keeper likes as well as the worth is even, all else odd."""
    return max(rank, worth + 1 if worth % 2 else worth - 1)


def even_above(rank, worth):
    """A rank in the place of this one, so that what the keeper likes better than the worth is even, all else odd."""
    return max(rank, worth - 1 if worth % 2 else worth + 1)


class Worths:
    """The worths of the rows of a game, and for each row a goal by which its side holds it.

    Rows are parted again and again: those worth some middle rank at least, and those worth less. Each part is a game
    of its own, as who leaves it comes to what it likes less, or the other side would.
    """

    def __init__(self, rows):
        """Find them at once."""
        self.rows = rows
        self.ranks = [0] * len(rows)
        self.picks = [0] * len(rows)
        ranks = sorted({rank for _, rank, _ in rows})
        todo = [(list(range(len(rows))), sorted(ranks, key=worth_of))]
        while todo:
            part, known = todo.pop()
            half = len(known) // 2
            if not part:
                continue
            if half == 0:
                self.settle(part, known[0])
                continue
            winners = self.arena(part, [even_from(self.rows[row][1], known[half]) for row in part]).winners
            todo.append(([row for at, row in enumerate(part) if winners[at] == 1], known[:half]))
            todo.append(([row for at, row in enumerate(part) if winners[at] == 0], known[half:]))

    def arena(self, part, ranks):
        """The settled game of these rows alone, with other ranks."""
        numbers = {row: at for at, row in enumerate(part)}
        goals = [[numbers[goal] for goal in self.rows[row][2] if goal in numbers] for row in part]
        return Arena([self.rows[row][0] for row in part], ranks, goals)

    def settle(self, part, worth):
        """Keep the worth of all these rows, and their goals."""
        kept = self.arena(part, [even_from(self.rows[row][1], worth) for row in part]).picks
        broken = self.arena(part, [even_above(self.rows[row][1], worth) for row in part]).picks
        for at, row in enumerate(part):
            self.ranks[row] = worth
            self.picks[row] = part[broken[at] if self.rows[row][0] else kept[at]]


def worths(game):
    """A triple: the worth of each row, and goals of the keeper's and of the breaker's rows by which they are held."""
    check_game(game)
    rows = game[1]
    found = Worths(rows)
    sides = [side for side, _, _ in rows]
    kept = [None if side else goal for side, goal in zip(sides, found.picks)]
    broken = [goal if side else None for side, goal in zip(sides, found.picks)]
    return (tuple(found.ranks), tuple(kept), tuple(broken))


def are_picks(thing, rows, side):
    """Whether it is a tuple with one of its goals for each row of a side, None for the others."""
    if not is_row(thing, len(rows), len(rows)):
        return False
    for (owner, _, goals), goal in zip(rows, thing):
        if owner != side and goal is not None:
            return False
        if owner == side and not (is_number(goal, len(rows)) and goal in goals):
            return False
    return True


def spread(told_worths, goals, order):
    """For each row the first one, in this order of the rows, of the worths of rows from which one comes to it."""
    found = [None] * len(goals)
    for start in order:
        todo = [start]
        while todo:
            row = todo.pop()
            if found[row] is None:
                found[row] = told_worths[start]
                todo.extend(goals[row])
    return found


def are_held(ranks, told_worths, goals, side):
    """Whether a side holds the worths of all rows where one goes to these goals.

    A round has to be as good for it as the best worth, for it, of the rows from which one comes to the round.
    """
    sign = 1 if side else -1
    order = sorted(list(range(len(ranks))), key=lambda row: sign * worth_of(told_worths[row]))
    changed = []
    for rank, worth in zip(ranks, spread(told_worths, goals, order)):
        changed.append(even_above(rank, worth) if side else even_from(rank, worth))
    return not has_round(changed, goals, 1 - side)


def are_worths(game, thing):
    """Whether a value of any kind is a triple of worths and goals by which they are held."""
    check_game(game)
    rows = game[1]
    if not is_row(thing, 3, 3) or not is_row(thing[0], len(rows), len(rows)):
        return False
    if not all(is_number(worth, RANKS) for worth in thing[0]):
        return False
    ranks = [rank for _, rank, _ in rows]
    for side in (0, 1):
        if not are_picks(thing[1 + side], rows, side):
            return False
        goals = [leads if goal is None else (goal,) for (_, _, leads), goal in zip(rows, thing[1 + side])]
        if not are_held(ranks, thing[0], goals, side):
            return False
    return True
