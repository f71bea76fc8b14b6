"""From which states of choices some wood is let by: games of picked pairs, with lots of states told by masks.

The picker picks a pair of its state, the refuser goes on with one of the two. Parts of the game are looked at where
all of some states have gone: to those of the lot gone a pair leads no more, and its other state alone is left; a pair
with a state of the lot barred is none that the picker takes.
"""

from allboughs.picking import Picking
from allboughs.ranking import mask_of

# With fewer ranks than these it is told rank by rank.
FEW_RANKS = 4
# With more pairs than these the game is settled in another way, which takes longer for few of them.
FEW = 20000


class Useful:
    """Tells which states are useful, by their ranks and the masks of their pairs.

    picks has masks of pairs, those of all useful states among them: if they are always picked, the picker wins.
    """

    def __init__(self, ranks, options):
        """Begin with nothing found out."""
        self.ranks = ranks
        self.options = options
        self.picks = {}

    def states_in(self, mask):
        """The states of a mask."""
        return [state for state in range(mask.bit_length()) if mask >> state & 1]

    def picker_draws(self, aims, inside, barred):
        """The states inside from which the picker can come to the aims, among them."""
        away = inside & ~aims
        rest = self.states_in(away)
        many = -1
        while len(rest) != many:
            many = len(rest)
            closed = away | barred
            for state in rest:
                for pair in self.options[state]:
                    if not pair & closed:
                        self.picks[state] = pair
                        away ^= 1 << state
                        closed = away | barred
                        break
            rest = [state for state in rest if away >> state & 1]
        return inside & ~away

    def refuser_draws(self, aims, inside, barred):
        """The states inside from which the refuser can come to the aims, among them."""
        drawn = aims
        rest = self.states_in(inside & ~aims)
        many = -1
        while len(rest) != many:
            many = len(rest)
            for state in rest:
                closed = drawn | barred
                if all(pair & closed for pair in self.options[state]):
                    drawn |= 1 << state
            rest = [state for state in rest if not drawn >> state & 1]
        return drawn

    def heads_of(self, inside):
        """The mask of the states inside with ranks above all those of the other kind, and whether these are even."""
        states = self.states_in(inside)
        even = max([self.ranks[state] for state in states]) % 2 == 0
        worst = max([self.ranks[state] for state in states if (self.ranks[state] % 2 == 0) != even], default=-1)
        return sum([1 << state for state in states if self.ranks[state] > worst]), even

    def stay(self, heads, barred):
        """Pick for each of the heads some pair that is not barred: from wherever it leads one comes to heads again."""
        for state in self.states_in(heads):
            self.picks[state] = [pair for pair in self.options[state] if not pair & barred][0]

    def won(self, inside, barred):
        """The states inside from which the picker wins; each of them has a pair that it may take."""
        told = 0
        while inside:
            heads, even = self.heads_of(inside)
            if even:
                drawn = self.picker_draws(heads, inside, barred)
                rest = inside & ~drawn
                lost = rest & ~self.won(rest, barred)
                if not lost:
                    self.stay(heads, barred)
                    return told | inside
                drawn = self.refuser_draws(lost, inside, barred)
                barred |= drawn
            else:
                drawn = self.refuser_draws(heads, inside, barred)
                rest = inside & ~drawn
                won = self.won(rest, barred | drawn)
                if not won:
                    return told
                drawn = self.picker_draws(won, inside, barred)
                told |= drawn
            inside &= ~drawn
        return told

    def all_useful(self):
        """The mask of all useful states."""
        inside = (1 << len(self.ranks)) - 1
        stuck = self.refuser_draws(0, inside, 0)
        return self.won(inside & ~stuck, stuck)


def lists_within(pairs, inside):
    """The mask of the lists with a pair of states inside, where pairs tells the masks of the pairs of each list."""
    away = ~inside
    told = 0
    for at, masks in enumerate(pairs):
        for pair in masks:
            if not pair & away:
                told |= 1 << at
                break
    return told


class Levels:
    """Tells which states with few ranks are useful, rank by rank; for many ranks that would take too long.

    rows has for each state the mask of its lists, pairs for each list the masks of its pairs.
    """

    def __init__(self, ranks, rows, pairs):
        """Keep it all, and the states with each rank."""
        self.rows = rows
        self.pairs = pairs
        self.by_rank = [[] for _ in range(max(ranks) + 1)]
        for state, rank in enumerate(ranks):
            self.by_rank[rank].append(state)

    def within(self, states, inside):
        """Those of some states that have a pair of states inside."""
        fine = lists_within(self.pairs, inside)
        return [state for state in states if self.rows[state] & fine]

    def staying(self, states, goal):
        """The mask of the goal and of those of some states from which the picker stays among these or comes to it."""
        inside = goal | mask_of(states)
        stay = self.within(states, inside)
        while len(stay) < len(states):
            states = stay
            inside = goal | mask_of(states)
            stay = self.within(states, inside)
        return inside

    def coming(self, states, goal):
        """The mask of the goal and of those of some states from which the picker can come to it."""
        states = [state for state in states if not goal >> state & 1]
        while states:
            found = self.within(states, goal)
            if not found:
                return goal
            goal |= mask_of(found)
            states = [state for state in states if not goal >> state & 1]
        return goal

    def low(self, goal):
        """The mask of the goal and of the states of the ranks 0 and 1 from which the picker comes to it or wins."""
        idle = self.by_rank[0]
        lower = [state for states in self.by_rank[:2] for state in states]
        told = self.coming(lower, goal) if goal else 0
        while True:
            inside = self.staying([state for state in idle if not told >> state & 1], told)
            if inside == told:
                return told
            told = self.coming(lower, inside)

    def won(self, top, goal):
        """The same for all states whose ranks are not above top: from those of this rank a pair leads to all told."""
        if top < 2:
            return self.low(goal)
        inside = 0 if top % 2 else (1 << len(self.rows)) - 1
        told = self.won(top - 1, goal | mask_of(self.within(self.by_rank[top], inside)))
        while told != inside:
            inside = told
            if top % 2 == 0 and top == len(self.by_rank) - 1:
                # There will never be more, so pairs with others are of no use.
                self.pairs = [[pair for pair in masks if not pair & ~inside] for masks in self.pairs]
            told = self.won(top - 1, goal | mask_of(self.within(self.by_rank[top], inside)))
        return told


def useful_mask(ranks, rows, pairs):
    """The mask of the useful states, told the mask of the lists of each, and the masks of the pairs of each list."""
    if max(ranks) < FEW_RANKS:
        return Levels(ranks, rows, pairs).won(max(ranks), 0)
    options = []
    for row in rows:
        options.append(list({pair: True for at, masks in enumerate(pairs) if row >> at & 1 for pair in masks}))
    if sum([len(masks) for masks in options]) > FEW:
        told = [[(mask.bit_length() - 1, (mask & -mask).bit_length() - 1) for mask in masks] for masks in options]
        return mask_of([state for state, wins in enumerate(Picking(ranks, told).wins) if wins])
    return Useful(ranks, options).all_useful()


def picked_pairs(ranks, options):
    """For each state a pair by which a wood is let by, None if it is not useful; options tells the pairs of each."""
    if all(options) and not any(rank % 2 for rank in ranks):
        return [pairs[0] for pairs in options]
    if sum([len(pairs) for pairs in options]) > FEW:
        return Picking(ranks, options).picked
    masks = []
    for pairs in options:
        told = {}
        for left, right in pairs:
            told.setdefault(1 << left | 1 << right, (left, right))
        masks.append(told)
    game = Useful(ranks, [list(told) for told in masks])
    useful = game.all_useful()
    return [told[game.picks[state]] if useful >> state & 1 else None for state, told in enumerate(masks)]
