"""The game of a wish: a maker puts a letter, then a way is taken, and a history judges all traces along the road."""

from allboughs.errors import TooMany
from allboughs.leading import Leader
from allboughs.regions import Arena
from allboughs.woods import MOST_NODES, least_rows, letters_of, walked

MOST_HISTORIES = 400


def is_letter(thing, known):
    """Whether a value of any kind is one of the known letters."""
    return isinstance(thing, tuple) and all(isinstance(name, str) for name in thing) and thing in known


class Judge:
    """Leads histories, as the module leading tells them, by the steps of the letters and ways of a wish."""

    def __init__(self, wish):
        """Make the steps: for each letter and way the mask of the goals of each state."""
        self.leader = Leader([rank for rank, _ in wish[2]])
        self.start = self.leader.start
        self.moves = []
        for letter in range(1 << len(wish[1])):
            left = [self.leader.mask(goals[letter][0]) for _, goals in wish[2]]
            self.moves.append((left, [self.leader.mask(goals[letter][1]) for _, goals in wish[2]]))

    def lead_on(self, history, letter, way):
        """The history behind the step of a letter and a way, and the rank that is told."""
        return self.leader.lead_on(history, self.moves[letter][way])


class WishGame:
    """The histories that are met by all letters and ways, by numbers, and who wins from them.

    onward has for each of them, letter by letter, the pairs (history, rank) to which left and right lead. wins tells
    from which of them a maker can be that keeps the wish: it puts the letter that letters has for them. ways has for
    the others, letter by letter, the way that the outsider takes.
    """

    def __init__(self, wish):
        """Meet the histories, and settle the game at once."""
        self.scope = wish[1]
        self.known = letters_of(wish[1])
        self.judge = Judge(wish)
        self.histories = [self.judge.start]
        self.numbers = {self.judge.start: 0}
        self.onward = []
        while len(self.onward) < len(self.histories):
            history = self.histories[len(self.onward)]
            self.onward.append([(self.led(history, at, 0), self.led(history, at, 1)) for at in range(len(self.known))])
        self.settle()

    def led(self, history, letter, way):
        """The number of the history to which a letter and a way lead, which may be met now, and the rank told."""
        told, rank = self.judge.lead_on(history, letter, way)
        if told not in self.numbers:
            if len(self.histories) == MOST_HISTORIES:
                raise TooMany(MOST_HISTORIES)
            self.numbers[told] = len(self.histories)
            self.histories.append(told)
        return (self.numbers[told], rank)

    def settle(self):
        """Find out who wins: the maker owns the histories, the outsider the letters that were put behind them."""
        many = len(self.histories)
        letters = len(self.known)
        arrivals = {}
        for row in self.onward:
            for pair in row:
                for arrival in pair:
                    arrivals.setdefault(arrival, many + many * letters + len(arrivals))
        goals = [list(range(many + at * letters, many + (at + 1) * letters)) for at in range(many)]
        for row in self.onward:
            for left, right in row:
                goals.append([arrivals[left]] if left == right else [arrivals[left], arrivals[right]])
        goals.extend([[history] for history, _ in arrivals])
        ranks = [0] * (many + many * letters) + [rank for _, rank in arrivals]
        arena = Arena([0] * many + [1] * (many * letters) + [0] * len(arrivals), ranks, goals)
        self.wins = [arena.winners[at] == 0 for at in range(many)]
        self.letters = [(arena.picks[at] - many) % letters for at in range(many)]
        self.ways = []
        for at, row in enumerate(self.onward):
            picks = [arena.picks[many + at * letters + letter] for letter in range(letters)]
            self.ways.append([0 if pick == arrivals[left] else 1 for pick, (left, _) in zip(picks, row)])

    def is_allowed(self, at, letter):
        """Whether both ways lead to histories that are kept if a letter is put."""
        (left, _), (right, _) = self.onward[at][letter]
        return self.wins[left] and self.wins[right]

    def maker_nodes(self, shift):
        """A dict of nodes for all kept histories, by which the wish is kept, with numbers moved along."""
        nodes = {}
        for at, fine in enumerate(self.wins):
            if fine:
                letter = self.letters[at]
                (left, _), (right, _) = self.onward[at][letter]
                nodes[at + shift] = (self.known[letter], left + shift, right + shift)
        return nodes

    def told_wood(self, nodes, start):
        """The least wood of these nodes that begins with one of them."""
        rows = least_rows(walked(nodes, start), MOST_NODES)
        if rows is None:
            raise TooMany(MOST_NODES)
        return ("wood", self.scope, rows)

    def outsider(self):
        """The outsider that breaks the wish, if the first history is not kept."""
        order = [0]
        numbers = {0: 0}
        rows = []
        while len(rows) < len(order):
            at = order[len(rows)]
            row = []
            for letter, way in enumerate(self.ways[at]):
                goal = self.onward[at][letter][way][0]
                if goal not in numbers:
                    numbers[goal] = len(order)
                    order.append(goal)
                row.append((way, numbers[goal]))
            rows.append(tuple(row))
        return ("outsider", self.scope, tuple(rows))
