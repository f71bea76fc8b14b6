"""Who wins a game that goes on for ever, from each row: the even side, 0, or the odd side, 1.

A row is of a side, has a rank, and leads to at least one row. Who owns the row picks to which one. The greatest rank
that comes again and again tells who wins. Both sides win by fixed picks.
"""

from allboughs.circles import Walk
from allboughs.promoting import Promoting

SETTLED = -1

# Games with more rows and ranks than these are settled by putting regions together first, but no longer than it takes
# to look at each row so many times, and at so many rows at all.
FEW_ROWS = 200
FEW_RANKS = 10
PATIENCE = 500
MOST_LOOKS = 10000000


class Arena:
    """A game, and what is known of it: for each row who wins from there, and a pick for rows of who wins.

    While it is settled each row has a depth: the rows of one depth are a game of their own, and the rows of greater
    depths are looked at within it.
    """

    def __init__(self, sides, ranks, goals):
        """Settle the game at once."""
        self.sides = sides
        self.ranks = ranks
        self.goals = goals
        self.sources = [[] for _ in goals]
        for row, leads in enumerate(goals):
            for goal in leads:
                self.sources[goal].append(row)
        self.depths = [0] * len(goals)
        self.winners = [0] * len(goals)
        self.picks = [leads[0] for leads in goals]
        if not self.is_soon_settled():
            self.settle(list(range(len(goals))), 0)

    def is_soon_settled(self):
        """Settle a large game by putting regions together; told is whether that did not take too long."""
        if len(self.goals) <= FEW_ROWS or len(set(self.ranks)) <= FEW_RANKS:
            return False
        promoting = Promoting(self.sides, self.ranks, self.goals, self.sources)
        if not promoting.settle(min(PATIENCE * len(self.goals), MOST_LOOKS)):
            return False
        self.winners = promoting.winners
        self.picks = promoting.picks
        return True

    def drawn_in(self, side, aims, depth):
        """The rows of this depth from which the side can come to the aims, the aims among them.

        Its rows, but for the aims, get a pick that leads there.
        """
        sides = self.sides
        depths = self.depths
        drawn = list(aims)
        met = {row: True for row in aims}
        left = {}
        at = 0
        while at < len(drawn):
            aim = drawn[at]
            at += 1
            for row in self.sources[aim]:
                if depths[row] != depth or row in met:
                    continue
                if sides[row] == side:
                    self.picks[row] = aim
                else:
                    if row not in left:
                        left[row] = self.leads_within(row, depth)
                    left[row] -= 1
                    if left[row] > 0:
                        continue
                met[row] = True
                drawn.append(row)
        return drawn

    def leads_within(self, row, depth):
        """To how many rows of this depth a row leads."""
        return len([goal for goal in self.goals[row] if self.depths[goal] == depth])

    def settle(self, rows, depth):
        """Find out who wins the game of these rows alone, all of which have this depth and lead to each other.

        The calls of itself are no more than there are ranks, one within the other.
        """
        for clump in Walk(rows, self.goals).clumps:
            part = [row for row in clump if self.depths[row] == depth]
            if len(part) == 1:
                self.settle_one(part[0], depth)
                continue
            rest = part
            while rest:
                self.sink(rest, depth + 1)
                heads, side = self.heads_of(rest)
                drawn = self.drawn_in(side, heads, depth + 1) if len(heads) < len(rest) else heads
                lost = self.lost_beside(rest, drawn, side, depth + 1) if len(drawn) < len(rest) else []
                if lost:
                    away = self.drawn_in(1 - side, lost, depth + 1)
                    self.take(away, 1 - side, depth)
                    rest = [row for row in rest if self.depths[row] != depth]
                if not lost or len(away) == len(lost):
                    self.give(drawn, heads, side, depth + 1)
                    rest = []
            self.close(part, depth)

    def settle_one(self, row, depth):
        """Settle a row that leads to itself, and else to no row of this depth, and what can be drawn to it."""
        side = self.ranks[row] % 2
        if self.sides[row] == side:
            self.picks[row] = row
        self.take(self.drawn_in(side, [row], depth), side, SETTLED)

    def lost_beside(self, rest, drawn, side, depth):
        """Those of the rows that are not drawn from which the side does not win if what is drawn is left out."""
        taken = {row: True for row in drawn}
        inner = [row for row in rest if row not in taken]
        self.sink(inner, depth + 1)
        self.settle(inner, depth + 1)
        self.sink(inner, depth)
        return [row for row in inner if self.winners[row] != side]

    def close(self, part, depth):
        """Settle what can be drawn to rows of a part, all of which are won by now, and the part itself."""
        self.sink(part, depth)
        for side in (0, 1):
            won = [row for row in part if self.winners[row] == side]
            if won:
                self.take(self.drawn_in(side, won, depth), side, SETTLED)

    def heads_of(self, rows):
        """The rows with ranks above all those of the other kind, and the side that likes them."""
        ranks = [self.ranks[row] for row in rows]
        side = max(ranks) % 2
        others = [rank for rank in ranks if rank % 2 != side]
        if not others:
            return rows, side
        worst = max(others)
        return [row for row in rows if self.ranks[row] > worst], side

    def sink(self, rows, depth):
        """Tell of all these rows that they have this depth now."""
        for row in rows:
            self.depths[row] = depth

    def take(self, rows, side, depth):
        """Tell of all these rows that this side wins from them, and that they have this depth now."""
        for row in rows:
            self.winners[row] = side
            self.depths[row] = depth

    def give(self, drawn, heads, side, depth):
        """Tell of rows drawn to heads that the side wins from all of them: it comes to heads again and again."""
        for row in drawn:
            self.winners[row] = side
        for row in heads:
            if self.sides[row] == side:
                self.picks[row] = [goal for goal in self.goals[row] if self.depths[goal] == depth][0]
