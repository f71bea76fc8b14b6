"""Histories led on fast, for those who lead many of them: lots of runners are told by masks.

A history is a pair (reached, nests) here: reached an ascending tuple of states; nests a tuple of pairs (home, lot)
as in the module histories, but lot is a number in which a bit is set for each runner of the lot. Two of them are
equal exactly if those are. A step is told by moves: one for each reached state, in order.
"""

from allboughs.histories import runners_of

START = ((0,), ())


class Leader:
    """Leads histories of ranks. The runner of a state and the i-th odd rank has the bit state * width + i."""

    def __init__(self, ranks):
        """Begin with the bits of all runners."""
        odd = sorted({rank for rank in ranks if rank % 2})
        self.many = len(runners_of(ranks))
        self.states = len(ranks)
        self.width = len(odd)
        self.field = self.states * self.width
        self.bits = []
        self.own = 0
        for state, rank in enumerate(ranks):
            row = [1 << (state * len(odd) + at) if limit >= rank else 0 for at, limit in enumerate(odd)]
            self.bits.append(row)
            if rank % 2:
                self.own |= row[odd.index(rank)]
        self.known = {}

    def move(self, goals):
        """The move to goals: their mask, that of the runners born there, and those of the led ones by odd ranks."""
        reached = 0
        led = [0] * self.width
        for goal in goals:
            reached |= 1 << goal
            for at, bit in enumerate(self.bits[goal]):
                led[at] |= bit
        born = 0
        for mask in led:
            born |= mask & self.own
        return (reached, born, led)

    def states_in(self, mask):
        """The ascending tuple of the states of a mask."""
        return tuple([state for state in range(mask.bit_length()) if mask >> state & 1])

    def size_of(self, history):
        """How many bits tell what a step does to a history."""
        return self.states + self.field * (1 + len(history[1]))

    def part_of(self, history, state, move):
        """What the move of a reached state does to a history, as a number: one field behind the other.

        They are the goals, the runners that are born, and for each nest those to which its runners are led. What a
        step does is told by the bits of the parts of all reached states together.
        """
        reached, born, led = move
        told = reached | born << self.states
        shift = self.states + self.field
        for _, lot in history[1]:
            block = lot >> state * self.width
            for mask in led:
                if block & 1:
                    told |= mask << shift
                block >>= 1
            shift += self.field
        return told

    def behind(self, history, told):
        """The history behind a step and the rank that is told, by what the step does."""
        nests = history[1]
        goals = told & (1 << self.states) - 1
        if goals not in self.known:
            self.known[goals] = self.states_in(goals)
        goals = self.known[goals]
        told >>= self.states
        if not nests:
            return (goals, ((None, told),) if told else ()), 0
        full = (1 << self.field) - 1
        fresh = told & full
        lots = []
        born = []
        inner = [0] * len(nests)
        outer = 0
        for home, _ in nests:
            told >>= self.field
            lot = told & full
            born.append(lot & self.own)
            if home is None:
                lot &= ~outer
                outer |= lot
            else:
                lot &= lots[home] & ~inner[home]
                inner[home] |= lot
            lots.append(lot)
        for at, lot in enumerate(lots):
            born[at] &= lot & ~inner[at]
            inner[at] |= born[at]
        left, rank = self.nests_left(nests, lots, inner, born, fresh & ~outer)
        return (goals, left), rank

    def nests_left(self, nests, lots, inner, born, fresh):
        """The nests that do not end, and the rank for the first of the elder ones that ends or shines.

        inner has for each nest what is found in those that lie in it, born what is born in it, fresh what is born
        in none.
        """
        numbers = {None: None}
        left = []
        rank = 0
        closed = {}
        for at, (home, _) in enumerate(nests):
            ends = home in closed or not lots[at]
            if ends or inner[at] == lots[at]:
                closed[at] = True
                if rank == 0:
                    rank = 2 * (self.many - at) - (0 if ends else 1)
            if not ends:
                numbers[at] = len(left)
                left.append((numbers[home], lots[at]))
        if fresh:
            left.append((None, fresh))
        for at, lot in enumerate(born):
            if lot and at not in closed:
                left.append((numbers[at], lot))
        return tuple(left), rank

    def lead_on(self, history, moves):
        """The history behind a step and the rank that is told, where moves has a move for each reached state."""
        told = 0
        for state, move in zip(history[0], moves):
            told |= self.part_of(history, state, move)
        return self.behind(history, told)
