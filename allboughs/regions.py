"""Who wins a game that goes on for ever, from each row: the even side, 0, or the odd side, 1.

A row is of a side, has a rank, and leads to at least one row. Who owns the row picks to which one. The greatest rank
that comes again and again tells who wins. Both sides win by fixed picks.
"""


def levels_of(ranks):
    """The ranks made small: neighbours of one evenness become one."""
    levels = {}
    level = 0
    for rank in sorted(set(ranks)):
        level += (level + rank) % 2
        levels[rank] = level
    return [levels[rank] for rank in ranks]


class Arena:
    """A game, and what is known of it: for each row who wins from there, and a pick for rows of who wins."""

    def __init__(self, sides, ranks, goals):
        """Settle the game at once."""
        self.sides = sides
        self.levels = levels_of(ranks)
        self.goals = goals
        self.sources = [[] for _ in goals]
        for row, leads in enumerate(goals):
            for goal in leads:
                self.sources[goal].append(row)
        self.depths = [0] * len(goals)
        self.winners = [0] * len(goals)
        self.picks = [goal[0] for goal in goals]
        self.settle(list(range(len(goals))), 0)

    def drawn_in(self, side, aims, depth):
        """The rows of this depth from which the side can come to the aims, the aims among them.

        Its rows, but for the aims, get a pick that leads there.
        """
        drawn = list(aims)
        met = {row: True for row in aims}
        left = {}
        at = 0
        while at < len(drawn):
            aim = drawn[at]
            at += 1
            for row in self.sources[aim]:
                if row in met or self.depths[row] != depth:
                    continue
                if self.sides[row] == side:
                    self.picks[row] = aim
                else:
                    if row not in left:
                        left[row] = self.leads_within(row, depth)
                    left[row] -= 1
                    if left[row] > 0:
                        continue
                met[row] = True
                drawn.append(row)
        return drawn

    def leads_within(self, row, depth):
        """To how many rows of this depth a row leads."""
        return len([goal for goal in self.goals[row] if self.depths[goal] == depth])

    def settle(self, rows, depth):
        """Find out who wins the game of these rows alone, all of which have this depth and lead to each other.

        The calls of itself are no more than there are levels, one within the other.
        """
        while rows:
            top = max([self.levels[row] for row in rows])
            side = top % 2
            heads = [row for row in rows if self.levels[row] == top]
            drawn = self.drawn_in(side, heads, depth)
            taken = {row: True for row in drawn}
            rest = [row for row in rows if row not in taken]
            self.sink(rest, depth + 1)
            self.settle(rest, depth + 1)
            self.sink(rest, depth)
            lost = [row for row in rest if self.winners[row] != side]
            if not lost:
                self.give(drawn, heads, side, depth)
                return
            away = self.drawn_in(1 - side, lost, depth)
            for row in away:
                self.winners[row] = 1 - side
                self.depths[row] = -1
            rows = [row for row in rows if self.depths[row] == depth]

    def sink(self, rows, depth):
        """Tell of all these rows that they have this depth now."""
        for row in rows:
            self.depths[row] = depth

    def give(self, drawn, heads, side, depth):
        """Tell of rows drawn to heads that the side wins from all of them: it comes to heads again and again."""
        for row in drawn:
            self.winners[row] = side
        for row in heads:
            if self.sides[row] == side:
                self.picks[row] = [goal for goal in self.goals[row] if self.depths[goal] == depth][0]
