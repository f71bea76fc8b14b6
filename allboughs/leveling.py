"""The least levels of a side of a game, told number by number, the one for the greatest of the odds first.

Rows from which the side wins are kept in blocks: all numbers that were told of the rows of a block are equal. A row
whose further numbers are all 0 is done. Of its goals the live ones are those in its block, and those that were done
in it: a row falls to lesser ones whatever comes, and greater ones are of no use to it.
"""

from allboughs.regions import Arena


class Fates:
    """Which rows of a lot the side wins, told to which goals it falls and to which it does not.

    wins has True or False for each row as it is known; picks has goals by which the side wins at its own rows.
    """

    def __init__(self, side, ranks, own):
        """Begin with no rows; ranks and own are asked for rows as they come."""
        self.player = side
        self.ranks = ranks
        self.own = own
        self.inner = {}
        self.sources = {}
        self.left = {}
        self.wins = {}
        self.picks = {}
        self.todo = []

    def add(self, row, fine, wrong, goals):
        """Add a row that leads to fine goals, perhaps to wrong ones, and to others that are rows of the lot."""
        self.inner[row] = goals
        self.left[row] = len(goals)
        for goal in goals:
            self.sources.setdefault(goal, []).append(row)
        if self.own[row] and fine:
            self.picks[row] = fine[0]
            self.tell(row, True)
        elif not self.own[row] and wrong:
            self.tell(row, False)
        elif not goals:
            self.tell(row, not self.own[row])

    def tell(self, row, winning):
        """Tell the fate of a row."""
        self.wins[row] = winning
        self.todo.append(row)

    def settle(self):
        """Find the fates of all rows: first of those that can be drawn to what is known, then of the others."""
        while self.todo:
            goal = self.todo.pop()
            winning = self.wins[goal]
            for row in self.sources.get(goal, []):
                if row not in self.wins:
                    self.left[row] -= 1
                    if self.own[row] == winning:
                        self.picks[row] = goal
                        self.tell(row, winning)
                    elif self.left[row] == 0:
                        self.tell(row, winning)
        rest = [row for row in self.inner if row not in self.wins]
        if rest:
            self.settle_rest(rest)

    def settle_rest(self, rest):
        """Find the fates of rows each of which leads to one of them, so that they are a game of their own."""
        goals = {row: [goal for goal in self.inner[row] if goal not in self.wins] for row in rest}
        if len({self.ranks[row] % 2 for row in rest}) == 1:
            # All ranks are of one kind: who stays among these rows wins from all of them, or from none.
            for row in rest:
                self.wins[row] = self.ranks[row] % 2 == self.player
                self.picks[row] = goals[row][0]
            return
        numbers = {row: at for at, row in enumerate(rest)}
        sides = [self.player if self.own[row] else 1 - self.player for row in rest]
        leads = [[numbers[goal] for goal in goals[row]] for row in rest]
        arena = Arena(sides, [self.ranks[row] for row in rest], leads)
        for at, row in enumerate(rest):
            self.wins[row] = arena.winners[at] == self.player
            self.picks[row] = rest[arena.picks[at]]


class Count:
    """The numbers for one of the odds in a block.

    Its heads are the rows with this rank. held has the rows whose number need not be 0: the heads, and those from
    which the picks of the side may lead to heads. given has the numbers of held rows as they are found, lesser ones
    first; all other rows of the block have 0.
    """

    def __init__(self, levels, block, heads):
        """Find all numbers at once."""
        self.levels = levels
        self.block = block
        self.heads = {row: True for row in heads}
        self.held = {row: True for row in heads}
        self.given = {}
        low = self.led_to_heads()
        for row in low:
            self.held[row] = True
        self.win(low, 0)
        self.left = {row: len([goal for goal in levels.live[row] if not self.is_low(goal)]) for row in heads}
        ready = [row for row in heads if self.is_ready(row)]
        now = 0
        while ready:
            now += 1
            for row in ready:
                self.given[row] = now
            ready = self.ready_behind(ready + self.win(self.rows_before(ready), now))

    def is_low(self, goal):
        """Whether a live goal has a number by now."""
        return goal not in self.held or goal in self.given

    def is_ready(self, row):
        """Whether a head falls to what has numbers by now."""
        if self.levels.own[row]:
            return self.left[row] < len(self.levels.live[row])
        return self.left[row] == 0

    def ready_behind(self, rows):
        """The heads that are ready now that these rows have numbers."""
        found = {}
        for goal in rows:
            for row in self.sources_of(goal):
                if row in self.heads and row not in self.given:
                    self.left[row] -= 1
                    if self.levels.own[row] or self.left[row] == 0:
                        found[row] = True
        return list(found)

    def sources_of(self, goal):
        """The rows of the block that have this live goal."""
        blocks = self.levels.blocks
        live = self.levels.live
        return [row for row in self.levels.sources[goal] if blocks.get(row) == self.block and goal in live[row]]

    def led_to_heads(self):
        """The rows but for the heads from which one may come to heads where the side goes by its picks."""
        met = {}
        todo = list(self.heads)
        while todo:
            goal = todo.pop()
            for row in self.sources_of(goal):
                taken = not self.levels.own[row] or self.levels.picks[row] == goal
                if taken and row not in met and row not in self.heads:
                    met[row] = True
                    todo.append(row)
        return list(met)

    def rows_before(self, rows):
        """The rows without numbers from which one may come to these through such rows.

        Those of the other side that lead to a head without a number are left out: they wait for it.
        """
        met = {}
        todo = list(rows)
        while todo:
            goal = todo.pop()
            for row in self.sources_of(goal):
                if row in self.held and row not in self.given and row not in self.heads and row not in met:
                    if self.levels.own[row] or not any(self.is_high(onward) for onward in self.levels.live[row]):
                        met[row] = True
                        todo.append(row)
        return list(met)

    def is_high(self, goal):
        """Whether a goal is a head without a number."""
        return goal in self.heads and goal not in self.given

    def win(self, rows, now):
        """Tell the number of those of the rows that have no greater one; they are a list of rows without numbers."""
        lot = {row: True for row in rows}
        levels = self.levels
        fates = Fates(levels.player, levels.ranks, levels.own)
        for row in rows:
            fine = []
            inner = []
            wrong = False
            for goal in levels.live[row]:
                if goal in lot:
                    inner.append(goal)
                elif goal in self.given or goal not in self.held:
                    fine.append(goal)
                else:
                    wrong = True
            fates.add(row, fine, wrong, inner)
        fates.settle()
        won = [row for row in rows if fates.wins[row]]
        for row in won:
            self.given[row] = now
            if levels.own[row]:
                levels.picks[row] = fates.picks[row]
        return won


class Leveling:
    """The levels of a side; counts has for each row from which it wins the numbers that are not 0, by the odds."""

    def __init__(self, rows, side, odds, arena):
        """Find them at once, told the odds of the side and the settled arena of the rows."""
        won = [at for at, winning in enumerate(arena.winners) if winning == side]
        self.player = side
        self.odds = {odd: True for odd in odds}
        self.ranks = [rank for _, rank, _ in rows]
        self.own = [owner == side for owner, _, _ in rows]
        self.picks = {row: arena.picks[row] for row in won}
        self.counts = {row: {} for row in won}
        self.live = {row: {onward: True for onward in rows[row][2] if onward in self.counts} for row in won}
        self.waiting = {row: len(self.live[row]) for row in won}
        self.sources = {row: [] for row in won}
        for row in won:
            for goal in self.live[row]:
                self.sources[goal].append(row)
        self.blocks = {row: 0 for row in won}
        self.many = 1
        self.todo = [won]
        while self.todo:
            self.look_at(self.todo.pop())

    def look_at(self, rows):
        """Tell the numbers of the rows of a block, but for those that go to other blocks."""
        number = self.blocks[rows[0]] if rows else 0
        by_rank = {}
        for row in rows:
            by_rank.setdefault(self.ranks[row], []).append(row)
        for rank in sorted(by_rank, reverse=True):
            group = [row for row in by_rank[rank] if self.blocks.get(row) == number]
            if rank not in self.odds:
                self.close(group)
            elif group:
                self.part(Count(self, number, group), rank)

    def close(self, rows):
        """Tell of rows that they are done, and of all rows that are so with them."""
        todo = [(row, self.blocks[row]) for row in rows]
        for row in rows:
            del self.blocks[row]
        while todo:
            goal, number = todo.pop()
            for row in self.sources[goal]:
                if self.blocks.get(row) == number and goal in self.live[row]:
                    self.waiting[row] -= 1
                    if self.ranks[row] not in self.odds and (self.own[row] or self.waiting[row] == 0):
                        del self.blocks[row]
                        todo.append((row, number))

    def part(self, count, odd):
        """Keep the numbers for one of the odds; rows with numbers above 0 go to blocks of their own."""
        moved = [row for row, many in count.given.items() if many > 0]
        for row in moved:
            self.counts[row][odd] = count.given[row]
            for source in count.sources_of(row):
                if count.given.get(source, 0) == 0:
                    del self.live[source][row]
        for row in moved:
            del self.blocks[row]
        fresh = {}
        for row in moved:
            if row not in count.heads:
                # A row of the side has no goals with lesser numbers, or it would have a lesser one, too.
                many = count.given[row]
                self.live[row] = {goal: True for goal in list(self.live[row]) if count.given.get(goal, 0) == many}
                fresh.setdefault(many, []).append(row)
        for many in sorted(fresh):
            self.begin(fresh[many])

    def begin(self, rows):
        """Begin a block with these rows."""
        for row in rows:
            self.blocks[row] = self.many
        for row in rows:
            self.waiting[row] = len([goal for goal in self.live[row] if self.blocks.get(goal) == self.many])
        self.many += 1
        even = [row for row in rows if self.ranks[row] not in self.odds]
        self.close([
            row for row in even if self.waiting[row] == 0 or self.own[row] and self.waiting[row] < len(self.live[row])
        ])
        left = [row for row in rows if row in self.blocks]
        if left:
            self.todo.append(left)
