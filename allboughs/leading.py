"""Histories led on fast, for those who lead many of them: states and runners are told by masks.

In the mask of a lot of states the state 0 has the highest bit. A history is a pair (homes, fields) here: homes tells
for each nest in which elder one it lies, or None. fields is a number with a field for the reached states, the lowest
one, and for each nest and each odd rank, the lesser ones first, a field with the states of its runners of this rank.
Each field has twice as many bits as there are states, so that beside it what is led right and left finds room.

What a step leads to is told likewise: if a state has a place in some fields its goals come to these fields. To
multiply the mask of the goals by a number that has the lowest bit of each of these fields does that at once.
"""


class Leader:
    """Leads histories of ranks.

    whole is the mask of all states, one_nest has the lowest bit of each field of a nest. own has the runners whose
    rank is that of their state, allowed has all runners, both as the fields of a nest.
    """

    def __init__(self, ranks):
        """Begin with the fields of all runners."""
        odd = sorted({rank for rank in ranks if rank % 2})
        self.states = len(ranks)
        self.step = 2 * len(ranks)
        self.width = self.step * len(odd)
        self.whole = (1 << len(ranks)) - 1
        self.bits = [1 << place for place in range(len(ranks) - 1, -1, -1)]
        self.one_nest = 0
        self.own = 0
        self.allowed = 0
        self.many = 0
        for at, limit in enumerate(odd):
            self.one_nest |= 1 << self.step * at
            for bit, rank in zip(self.bits, ranks):
                if rank <= limit:
                    self.many += 1
                    self.allowed |= bit << self.step * at
                if rank == limit:
                    self.own |= bit << self.step * at
        self.start = ((), self.bits[0])
        self.known = {}
        self.lowest = {}

    def mask(self, goals):
        """The mask of some states."""
        told = 0
        for goal in goals:
            told |= self.bits[goal]
        return told

    def reached(self, fields):
        """The states that a history has reached, ascending, each with the place of its bit in each field."""
        mask = fields & self.whole
        if mask not in self.known:
            last = self.states - 1
            self.known[mask] = [(last - place, place) for place in range(last, -1, -1) if mask >> place & 1]
        return self.known[mask]

    def lowest_bits(self, homes):
        """The lowest bit of each field of a history."""
        many = len(homes)
        if many not in self.lowest:
            self.lowest[many] = 1 + sum([self.one_nest << self.step + at * self.width for at in range(many)])
        return self.lowest[many]

    def behind(self, homes, led):
        """The history behind a step, and the rank told, where led tells what the step leads to."""
        goals = led & self.whole
        fresh = goals * self.one_nest & self.own
        led >>= self.step
        if not homes:
            return (((None,), goals | fresh << self.step) if fresh else ((), goals)), 0
        lots = []
        inner = [0] * len(homes)
        outer = 0
        for home in homes:
            lot = led & self.allowed
            led >>= self.width
            if home is None:
                lot &= ~outer
                outer |= lot
            else:
                lot &= lots[home] & ~inner[home]
                inner[home] |= lot
            lots.append(lot)
        return self.nests_left(homes, lots, inner, goals, fresh & ~outer)

    def nests_left(self, homes, lots, inner, goals, fresh):
        """The history of the nests that do not end, and the rank for the first elder one that ends or shines.

        inner has for each nest what is found in those that lie in it, fresh what is born in none.
        """
        numbers = {None: None}
        closed = {}
        left = [(None, fresh)] if fresh else []
        kept = []
        rank = 0
        for at, home in enumerate(homes):
            lot = lots[at]
            if home in closed or not lot:
                closed[at] = True
                rank = rank or 2 * (self.many - at)
                continue
            numbers[at] = len(kept)
            kept.append((numbers[home], lot))
            born = lot & self.own & ~inner[at]
            if inner[at] | born == lot:
                closed[at] = True
                rank = rank or 2 * (self.many - at) - 1
            elif born:
                left.append((numbers[at], born))
        kept.extend(left)
        shift = self.step
        for _, lot in kept:
            goals |= lot << shift
            shift += self.width
        return (tuple([home for home, _ in kept]), goals), rank

    def lead_on(self, history, moves):
        """The history behind a step and the rank that is told, where moves has the mask of the goals of each state."""
        homes, fields = history
        lowest = self.lowest_bits(homes)
        led = 0
        for state, place in self.reached(fields):
            led |= moves[state] * (fields >> place & lowest)
        return self.behind(homes, led)
