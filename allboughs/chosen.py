"""From machines to choices: one guess at each place, with histories that judge all traces of what is guessed."""

from allboughs.choices import MOST_PAIRS, tidy
from allboughs.conditions import MOST_STATES
from allboughs.errors import TooMany
from allboughs.histories import FIRST, lead, runners_of
from allboughs.machines import check_machine, press
from allboughs.models import models_of

MOST_PRESSED = 24
MOST_RANK = 9
MOST_GUESSES = 2000


def halves_of(state, condition):
    """For each model of the condition of a state the pairs of the left and of the right step that it brings."""
    halves = []
    for model in models_of(condition):
        left = tuple([(state, goal) for way, goal in model if way == 0])
        right = tuple([(state, goal) for way, goal in model if way == 1])
        halves.append((left, right))
    return halves


def guesses_of(rows):
    """The pairs of a left and a right step of all guesses, where rows tells the halves of each reached state."""
    many = 1
    for halves in rows:
        many *= len(halves)
    if many > MOST_GUESSES:
        raise TooMany(MOST_GUESSES)
    if many == 0:
        return []
    guesses = [((), ())]
    for halves in rows:
        guesses = [(left + more, right + other) for left, right in guesses for more, other in halves]
    return guesses


class Growth:
    """The states of the choices as they are met: pairs of a history and a rank, with numbers."""

    def __init__(self, ranks, halves):
        """Begin with the first state; halves tells for each state of the machine and each letter its halves."""
        self.ranks = ranks
        self.halves = halves
        self.runners = len(runners_of(ranks))
        self.states = [(FIRST, 0)]
        self.numbers = {(FIRST, 0): 0}

    def number(self, state):
        """The number of a state, which is met now if it was not met yet."""
        if state not in self.numbers:
            if len(self.states) == MOST_STATES:
                raise TooMany(MOST_STATES)
            self.numbers[state] = len(self.states)
            self.states.append(state)
        return self.numbers[state]

    def list_for(self, history, letter, heard):
        """The list of the letter with this number behind a history; heard keeps what steps lead to from there."""
        pairs = {}
        for guess in guesses_of([self.halves[state][letter] for state in history[0]]):
            for step in guess:
                if step not in heard:
                    heard[step] = self.number(lead(self.ranks, self.runners, history, step))
            pairs[(heard[guess[0]], heard[guess[1]])] = True
        return tuple(sorted(pairs))

    def grown(self):
        """The states of the choices, as pairs of a rank and lists."""
        rows = []
        known = {}
        while len(rows) < len(self.states):
            history, rank = self.states[len(rows)]
            if history not in known:
                heard = {}
                many = len(self.halves[0])
                known[history] = tuple([self.list_for(history, letter, heard) for letter in range(many)])
            rows.append((rank, known[history]))
        return rows


def chosen(machine):
    """The choices that let by just the trees that the machine lets by."""
    check_machine(machine)
    scope, rows = press(machine[1], machine[2], 0)[1:]
    if len(rows) > MOST_PRESSED:
        raise TooMany(MOST_PRESSED)
    ranks = tuple([rank for rank, _ in rows])
    if max(ranks) > MOST_RANK:
        raise TooMany(MOST_RANK)
    halves = [[halves_of(at, condition) for condition in row[1]] for at, row in enumerate(rows)]
    told = Growth(ranks, halves).grown()
    if any(len(pairs) > MOST_PAIRS for _, lists in told for pairs in lists):
        raise TooMany(MOST_PAIRS)
    return tidy(scope, told)
