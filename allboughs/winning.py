"""Who wins small games from their first row, told by masks of rows; by which picks is not told."""

# For more rows than these masks are too long.
FEW_ROWS = 300


class Winning:
    """A game: the masks of the rows of both sides, and for each row those of its goals and of the rows that lead to it.

    by_rank has the pairs of a rank and the mask of its rows, the greater ranks first.
    """

    def __init__(self, sides, ranks, goals):
        """Make the masks."""
        self.goals = []
        self.sources = [0] * len(goals)
        masks = {}
        breakers = 0
        bit = 1
        for side, rank, row in zip(sides, ranks, goals):
            lead = 0
            for goal in row:
                lead |= 1 << goal
                self.sources[goal] |= bit
            self.goals.append(lead)
            masks[rank] = masks.get(rank, 0) | bit
            if side:
                breakers |= bit
            bit <<= 1
        self.own = (bit - 1 ^ breakers, breakers)
        self.by_rank = sorted(masks.items(), reverse=True)

    def drawn(self, side, aims, inside):
        """The rows inside from which a side can come to the aims, the aims among them."""
        told = aims
        front = aims
        while front:
            aim = front.bit_length() - 1
            front ^= 1 << aim
            sources = self.sources[aim] & inside & ~told
            fresh = sources & self.own[side]
            others = sources ^ fresh
            while others:
                row = others.bit_length() - 1
                others ^= 1 << row
                if not self.goals[row] & inside & ~told:
                    fresh |= 1 << row
            told |= fresh
            front |= fresh
        return told

    def top_rows(self, inside):
        """The rows inside with ranks above all those of the other kind, and the side that likes them."""
        told = 0
        side = 0
        for rank, mask in self.by_rank:
            if mask & inside:
                if told and rank % 2 != side:
                    break
                side = rank % 2
                told |= mask & inside
        return told, side

    def kept(self, inside):
        """The rows inside, all of which lead to such, from which the keeper wins."""
        told = 0
        while inside:
            heads, side = self.top_rows(inside)
            rest = inside & ~self.drawn(side, heads, inside)
            kept = self.kept(rest) if rest else 0
            lost = kept if side else rest & ~kept
            if not lost:
                return told if side else told | inside
            away = self.drawn(1 - side, lost, inside)
            if side:
                told |= away
            inside &= ~away
        return told


def keeper_wins(sides, ranks, goals):
    """Whether the keeper wins a game of few rows from the first one."""
    if not any(rank % 2 for rank in ranks):
        return True
    return Winning(sides, ranks, goals).kept((1 << len(goals)) - 1) & 1 == 1
