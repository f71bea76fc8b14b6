"""Two tables read at once: where they say unlike."""

from allboughs.circles import Walk


class Pairs:
    """The pairs of rows of two tables to which one comes at once, by numbers.

    goals has for each of them, letter by letter, the next pair.
    """

    def __init__(self, mine, theirs):
        """Meet the pairs at once."""
        self.tables = (mine, theirs)
        self.pairs = [(0, 0)]
        self.goals = []
        numbers = {(0, 0): 0}
        while len(self.goals) < len(self.pairs):
            one, other = self.pairs[len(self.goals)]
            row = []
            for (left, _), (right, _) in zip(mine[one], theirs[other]):
                if (left, right) not in numbers:
                    numbers[(left, right)] = len(self.pairs)
                    self.pairs.append((left, right))
                row.append(numbers[(left, right)])
            self.goals.append(row)

    def rank(self, at, letter, side):
        """The rank that one of both tables tells for a letter at a pair."""
        return self.tables[side][self.pairs[at][side]][letter][1]

    def kept(self, at, inside, caps):
        """The letters that lead from a pair to a pair inside, with ranks that are not above the caps."""
        letters = []
        for letter, goal in enumerate(self.goals[at]):
            if goal in inside and self.rank(at, letter, 0) <= caps[0] and self.rank(at, letter, 1) <= caps[1]:
                letters.append(letter)
        return letters

    def top(self, inside, caps, side, odd):
        """The greatest odd, or even, rank that one of both tables tells for a kept letter; -1 if there is none."""
        ranks = [self.rank(at, letter, side) for at in inside for letter in self.kept(at, inside, caps)]
        return max([rank for rank in ranks if rank % 2 == odd], default=-1)

    def unlike(self, odd):
        """A clump, as a dict, and caps up to which the greatest rank of the one is odd, and that of the other is not.

        If odd is 0 the one is even and the other is not. None if there is none: what no round of this kind can go
        through is left out again and again.
        """
        inside = {at: True for at in range(len(self.pairs))}
        todo = [(inside, self.all_ranks())]
        while todo:
            inside, caps = todo.pop()
            goals = {at: [self.goals[at][letter] for letter in self.kept(at, inside, caps)] for at in inside}
            for clump in Walk(list(inside), goals).clumps:
                held = {at: True for at in clump}
                one = self.top(held, caps, 0, odd)
                other = self.top(held, caps, 1, 1 - odd)
                if one > self.top(held, caps, 0, 1 - odd) and other > self.top(held, caps, 1, odd):
                    return held, (one, other)
                if one >= 0 and other >= 0:
                    todo.append((held, (one, other)))
        return None

    def all_ranks(self):
        """Caps that no rank is above."""
        return tuple([max([rank for row in rows for _, rank in row]) for rows in self.tables])

    def part(self):
        """Letters ahead and letters again and again for which both say unlike; None if there are none."""
        found = self.unlike(0)
        if found is None:
            found = self.unlike(1)
        if found is None:
            return None
        inside, caps = found
        start, first = self.telling(inside, caps, 0)
        middle, second = self.telling(inside, caps, 1)
        everywhere = {at: True for at in range(len(self.pairs))}
        ahead = self.letters_to(0, start, everywhere, self.all_ranks())
        again = [first] + self.letters_to(self.goals[start][first], middle, inside, caps)
        again = again + [second] + self.letters_to(self.goals[middle][second], start, inside, caps)
        return (tuple(ahead), tuple(again))

    def telling(self, inside, caps, side):
        """A pair and a kept letter for which one of both tables tells the rank of its cap."""
        for at in inside:
            for letter in self.kept(at, inside, caps):
                if self.rank(at, letter, side) == caps[side]:
                    return at, letter
        return None

    def letters_to(self, start, goal, inside, caps):
        """A shortest list of kept letters that leads from the one pair to the other one."""
        origins = {start: None}
        order = [start]
        at = 0
        while goal not in origins:
            here = order[at]
            at += 1
            for letter in self.kept(here, inside, caps):
                onward = self.goals[here][letter]
                if onward not in origins:
                    origins[onward] = (here, letter)
                    order.append(onward)
        letters = []
        while origins[goal] is not None:
            goal, letter = origins[goal]
            letters.append(letter)
        return letters[::-1]
