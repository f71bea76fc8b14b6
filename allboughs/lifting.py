"""The least levels of a side of a game by lifting: from 0 on, row by row, as far as the goals of a row ask for.

On many games this is the shortest way, on others it takes longer than anybody waits, so it gives up in time.
"""


def cuts_of(rows, odds):
    """For each rank of rows behind how many numbers the levels of such a row and of a goal are cut."""
    return {rank: len([odd for odd in odds if odd >= rank]) for rank in sorted({row[1] for row in rows})}


def goals_first(rows, goals):
    """The rows in a sequence in which the goals of a row stand ahead of it, as far as that can be."""
    order = []
    met = {}
    for start in rows:
        if start in met:
            continue
        met[start] = True
        road = [start]
        turns = [0]
        while road:
            row = road[-1]
            if turns[-1] == len(goals[row]):
                order.append(row)
                road.pop()
                turns.pop()
                continue
            goal = goals[row][turns[-1]]
            turns[-1] += 1
            if goal not in met:
                met[goal] = True
                road.append(goal)
                turns.append(0)
    return order


def one_more(numbers, bounds):
    """The least tuple of numbers within their bounds that is greater than this one, which is not the greatest."""
    at = len(numbers) - 1
    while numbers[at] == bounds[at]:
        at -= 1
    return numbers[:at] + (numbers[at] + 1,) + (0,) * (len(numbers) - at - 1)


class Lifting:
    """The levels of a side so far; lifted has those of the rows from which it wins.

    bounds tells how many rows there are with each of the odds, the greater ones first.
    """

    def __init__(self, rows, side, odds, bounds, won):
        """Begin with 0 everywhere, told the rows from which the side wins."""
        self.own = [owner == side for owner, _, _ in rows]
        self.bounds = bounds
        held = {row: True for row in won}
        self.goals = {row: [onward for onward in rows[row][2] if onward in held] for row in won}
        self.sources = {row: [] for row in won}
        for row in won:
            for goal in self.goals[row]:
                self.sources[goal].append(row)
        self.zeros = (0,) * len(odds)
        cuts = cuts_of(rows, odds)
        self.cuts = [cuts[rank] for _, rank, _ in rows]
        self.odd = [(rank + side) % 2 == 1 for _, rank, _ in rows]
        self.lifted = {row: self.zeros for row in won}

    def due(self, row):
        """What the goals of a row ask of it."""
        cut = self.cuts[row]
        asked = [self.lifted[goal][:cut] for goal in self.goals[row]]
        least = min(asked) if self.own[row] else max(asked)
        if self.odd[row]:
            least = one_more(least, self.bounds)
        return least + self.zeros[cut:]

    def lift(self, most):
        """Lift until nothing is left to lift, or rows were lifted so many times; told is whether nothing is left."""
        todo = goals_first(list(self.lifted), self.goals)
        waiting = {row: True for row in todo}
        at = 0
        while at < len(todo) and most > 0:
            row = todo[at]
            at += 1
            del waiting[row]
            value = self.due(row)
            if value > self.lifted[row]:
                self.lifted[row] = value
                most -= 1
                for source in self.sources[row]:
                    if source not in waiting:
                        waiting[source] = True
                        todo.append(source)
        return at == len(todo)
