"""Rounds in graphs, and the evenness of the greatest rank in each of them."""


class Walk:
    """A walk through some rows that finds the clumps: from each row of one, each other one can be come to."""

    def __init__(self, rows, goals):
        """Walk at once; told are the clumps in which there is a round."""
        self.goals = goals
        self.inside = {row: True for row in rows}
        self.met = {}
        self.lows = {}
        self.pile = []
        self.clumps = []
        for row in rows:
            if row not in self.met:
                self.walk_from(row)

    def walk_from(self, start):
        """Go on as far as one can come from a row, without calls of itself: the road may be long."""
        goals = self.goals
        inside = self.inside
        met = self.met
        lows = self.lows
        pile = self.pile
        met[start] = lows[start] = len(met)
        pile.append(start)
        road = [start]
        turns = [0]
        while road:
            row = road[-1]
            turn = turns[-1]
            if turn < len(goals[row]):
                goal = goals[row][turn]
                turns[-1] = turn + 1
                if goal not in inside:
                    continue
                if goal not in met:
                    met[goal] = lows[goal] = len(met)
                    pile.append(goal)
                    road.append(goal)
                    turns.append(0)
                elif lows[goal] < lows[row]:
                    # From this row one comes to one that was met so early.
                    lows[row] = lows[goal]
            else:
                road.pop()
                turns.pop()
                if lows[row] == met[row]:
                    if pile[-1] == row and row not in goals[row]:
                        lows[pile.pop()] = len(goals)
                    else:
                        self.leave(row)
                elif lows[row] < lows[road[-1]]:
                    lows[road[-1]] = lows[row]

    def leave(self, row):
        """Take the clump of a row, the first one of it that was met, from the pile."""
        clump = [self.pile.pop()]
        while clump[-1] != row:
            clump.append(self.pile.pop())
        for one in clump:
            self.lows[one] = len(self.goals)
        if len(clump) > 1 or row in self.goals[row]:
            self.clumps.append(clump)


def way_back(start, clump, goals):
    """The rows, from start on, of a shortest round through start within its clump."""
    inside = {row: True for row in clump}
    origins = {}
    order = [start]
    at = 0
    while start not in origins:
        row = order[at]
        at += 1
        for goal in goals[row]:
            if goal in inside and goal not in origins:
                origins[goal] = row
                order.append(goal)
    found = [origins[start]]
    while found[-1] != start:
        found.append(origins[found[-1]])
    return found[::-1]


def found_round(ranks, goals, odd):
    """A round of unlike rows with an odd greatest rank, or, if odd is 0, with an even one; None if there is none."""
    if not any(rank % 2 == odd for rank in ranks):
        return None
    todo = [list(range(len(ranks)))]
    while todo:
        walk = Walk(todo.pop(), goals)
        for clump in walk.clumps:
            top = max([ranks[row] for row in clump])
            if top % 2 == odd:
                return way_back([row for row in clump if ranks[row] == top][0], clump, goals)
            worst = max([ranks[row] for row in clump if ranks[row] % 2 == odd], default=-1)
            todo.append([row for row in clump if ranks[row] <= worst])
    return None


def has_round(ranks, goals, odd):
    """Whether there is a round with an odd greatest rank, or, if odd is 0, with an even one."""
    return found_round(ranks, goals, odd) is not None
