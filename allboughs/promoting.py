"""Who wins a large game that goes on for ever, by regions that are put together.

A region has the rows from which its side comes to its heads, the rows with its rank, as long as all stay among rows of
lesser ranks; or it wins within the region. The other side can leave a closed region to regions of greater ranks alone:
then it is put together with the least one of these, and regions of lesser ranks are told anew. If it cannot leave it
at all the side wins from there. This comes soon to an end on games on which other ways are long, but not on all.
"""

from allboughs.circles import Walk

OUT = -3
BEYOND = -2
FREE = -1


class Region:
    """A region: its rank, called its height, its heads, and all of its rows."""

    def __init__(self, rank, heads):
        """Begin without rows."""
        self.height = rank
        self.heads = heads
        self.rows = []


class Promoting:
    """A game, and what is known of it: for each row who wins from there, and a pick for rows of who wins.

    places has for each row the rank of its region; FREE if it is in none, BEYOND if it is not looked at yet, OUT if it
    is known who wins. highest is the greatest rank; left tells how much may still be done.
    """

    def __init__(self, sides, ranks, goals, sources):
        """Begin with nothing known."""
        self.sides = sides
        self.ranks = ranks
        self.goals = goals
        self.sources = sources
        self.highest = max(ranks)
        self.places = [BEYOND] * len(goals)
        self.winners = [0] * len(goals)
        self.picks = [leads[0] for leads in goals]
        self.left = 0

    def settle(self, most):
        """Find out who wins from all rows, if that takes no more than so much; told is whether it did not."""
        self.left = most
        for clump in Walk(list(range(len(self.goals))), self.goals).clumps:
            rest = self.freed(clump)
            while rest:
                region = self.won_region(rest)
                if region is None:
                    return False
                self.take(region.height % 2, region.rows)
                rest = self.freed(rest)
        return True

    def freed(self, rows):
        """Those of the rows from which it is not known who wins; all of them are free now."""
        rest = [row for row in rows if self.places[row] != OUT]
        self.put(rest, FREE)
        return rest

    def put(self, rows, place):
        """Tell of all these rows that this is their place now."""
        for row in rows:
            self.places[row] = place
        self.left -= len(rows)

    def won_region(self, rows):
        """A region of these rows, all of which are free now, that cannot be left; None if it takes too long."""
        by_rank = {}
        for row in rows:
            by_rank.setdefault(self.ranks[row], []).append(row)
        known = sorted(by_rank, reverse=True)
        regions = []
        at = 0
        while self.left > 0:
            if not regions or regions[-1].height != known[at]:
                heads = self.free_heads(by_rank[known[at]])
                if not heads:
                    at += 1
                    continue
                regions.append(Region(known[at], heads))
                self.grow(regions[-1], heads)
            if not self.is_closed(regions[-1]):
                at += 1
                continue
            closed = regions.pop()
            higher = self.least_way_out(closed)
            if higher is None:
                return closed
            while regions[-1].height != higher:
                self.put(regions.pop().rows, FREE)
            self.grow(regions[-1], closed.rows)
            at = known.index(higher)
        return None

    def free_heads(self, rows):
        """Those of the rows that are free."""
        self.left -= len(rows)
        return [row for row in rows if self.places[row] == FREE]

    def grow(self, region, fresh):
        """Add these rows to a region, and all free ones from which its side can come to them."""
        side = region.height % 2
        drawn = list(fresh)
        self.put(drawn, region.height)
        watched = {}
        at = 0
        while at < len(drawn):
            aim = drawn[at]
            at += 1
            for row in self.sources[aim]:
                if self.places[row] == FREE:
                    if self.sides[row] == side:
                        self.picks[row] = aim
                    elif self.has_goal(row, FREE, FREE, watched):
                        continue
                    self.places[row] = region.height
                    drawn.append(row)
        self.left -= len(drawn)
        region.rows.extend(drawn)

    def has_goal(self, row, lowest, highest, watched):
        """Whether the place of some goal of a row is none below and none above these; watched has the first such goal.

        Where it was none ahead of that goal it is none now: no row comes to such a place while rows are drawn.
        """
        goals = self.goals[row]
        at = watched.get(row, 0)
        while at < len(goals) and not lowest <= self.places[goals[at]] <= highest:
            at += 1
        watched[row] = at
        return at < len(goals)

    def is_closed(self, region):
        """Whether its side need not leave a region, and the other side cannot leave it to free rows."""
        for head in region.heads:
            if self.sides[head] == region.height % 2:
                inner = [goal for goal in self.goals[head] if self.places[goal] == region.height]
                if not inner:
                    return False
                self.picks[head] = inner[0]
            elif self.has_goal(head, FREE, FREE, {}):
                return False
        return True

    def least_way_out(self, region):
        """The least rank of the regions to which the other side can leave a closed one; None if it cannot."""
        self.left -= len(region.rows)
        found = [
            self.places[goal] for row in region.rows if self.sides[row] != region.height % 2
            for goal in self.goals[row] if self.places[goal] > region.height
        ]
        return min(found, default=None)

    def take(self, side, rows):
        """Tell of rows, and of all from which the side can come to them, that it wins from there."""
        drawn = list(rows)
        self.put(drawn, OUT)
        watched = {}
        at = 0
        while at < len(drawn):
            aim = drawn[at]
            self.winners[aim] = side
            at += 1
            for row in self.sources[aim]:
                if self.places[row] != OUT:
                    if self.sides[row] == side:
                        self.picks[row] = aim
                    elif self.has_goal(row, BEYOND, self.highest, watched):
                        continue
                    self.places[row] = OUT
                    drawn.append(row)
        self.left -= len(drawn)
