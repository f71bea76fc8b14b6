"""From machines to choices: one guess at each place, with histories that judge all traces of what is guessed."""

from allboughs.choices import MOST_PAIRS, tidy
from allboughs.conditions import MOST_STATES
from allboughs.errors import TooMany
from allboughs.folding import folded, unfolded
from allboughs.leading import START, Leader
from allboughs.machines import check_machine, press
from allboughs.models import models_of

MOST_PRESSED = 24
MOST_RANK = 9
MOST_GUESSES = 2000


class Growth:
    """The states of the choices as they are met: pairs of a history and a rank, with numbers.

    halves has for each state of the machine and each letter a pair for each model: the numbers of the moves that it
    brings to the left and to the right step. moves has what these numbers stand for. widest is the length of the
    longest list.
    """

    def __init__(self, ranks, rows):
        """Begin with the first state, told the models of each state of the machine for each letter."""
        self.leader = Leader(ranks)
        self.moves = []
        self.numbers = {}
        self.lone = {}
        self.halves = [[[self.half(model) for model in models] for models in row] for row in rows]
        self.states = [(START, 0)]
        self.met = {(START, 0): 0}
        self.widest = 0

    def half(self, model):
        """The numbers of the moves of a model, left and right."""
        left = tuple([state for way, state in model if way == 0])
        return (self.move_to(left), self.move_to(tuple([state for way, state in model if way == 1])))

    def move_to(self, goals):
        """The number of the move to goals."""
        if goals not in self.numbers:
            self.numbers[goals] = len(self.moves)
            self.moves.append(self.leader.move(goals))
        return self.numbers[goals]

    def number(self, state):
        """The number of a state, which is met now if it was not met yet."""
        if state not in self.met:
            if len(self.states) == MOST_STATES:
                raise TooMany(MOST_STATES)
            self.met[state] = len(self.states)
            self.states.append(state)
        return self.met[state]

    def options_for(self, history, state, letter, parts):
        """What the guesses for a reached state do: for each of its models left and right, as one number.

        parts keeps what the moves of the state do. Guesses that do the same are told once, where the first one stands.
        """
        size = self.leader.size_of(history)
        known = parts.setdefault(state, {})
        told = {}
        for left, right in self.halves[state][letter]:
            if left not in known:
                known[left] = self.leader.part_of(history, state, self.moves[left])
            if right not in known:
                known[right] = self.leader.part_of(history, state, self.moves[right])
            told[known[left] | known[right] << size] = True
        return list(told)

    def lone_options(self, history, state, letter):
        """The same for a history without nests: all of them have the same options, which are kept."""
        key = (state, letter)
        if key not in self.lone:
            self.lone[key] = self.options_for(history, state, letter, {})
        return self.lone[key]

    def is_open(self, reached, letter):
        """Whether there is a guess at all; TooMany is raised if there are too many of them."""
        many = 1
        for state in reached:
            many *= len(self.halves[state][letter])
        if many > MOST_GUESSES:
            raise TooMany(MOST_GUESSES)
        return many > 0

    def guesses_for(self, history, letter, parts):
        """What all guesses behind a history do, as numbers, each of them told where it stands first."""
        guesses = [0]
        for state in history[0]:
            if history[1]:
                options = self.options_for(history, state, letter, parts)
            else:
                options = self.lone_options(history, state, letter)
            if guesses == [0]:
                guesses = options
            elif options != [0]:
                guesses = list({guess | option: True for guess in guesses for option in options})
        return guesses

    def list_for(self, history, letter, heard, parts):
        """The list of the letter with this number behind a history; heard keeps what steps lead to from there."""
        if not self.is_open(history[0], letter):
            return ()
        size = self.leader.size_of(history)
        full = (1 << size) - 1
        pairs = {}
        for guess in self.guesses_for(history, letter, parts):
            left = guess & full
            right = guess >> size
            if left not in heard:
                heard[left] = self.number(self.leader.behind(history, left))
            if right not in heard:
                heard[right] = self.number(self.leader.behind(history, right))
            pairs[(heard[left], heard[right])] = True
        self.widest = max(self.widest, len(pairs))
        return tuple(sorted(pairs))

    def lists_behind(self, history):
        """The lists behind a history, letter by letter."""
        heard = {}
        parts = {}
        return tuple([self.list_for(history, letter, heard, parts) for letter in range(len(self.halves[0]))])

    def grown(self):
        """The states of the choices, as pairs of a rank and lists."""
        rows = []
        known = {}
        while len(rows) < len(self.states):
            history, rank = self.states[len(rows)]
            if history not in known:
                known[history] = self.lists_behind(history)
            rows.append((rank, known[history]))
        return rows


def chosen_of(machine):
    """The choices of what is known to be a pressed machine."""
    scope, rows = machine[1:]
    if len(rows) > MOST_PRESSED:
        raise TooMany(MOST_PRESSED)
    ranks = tuple([rank for rank, _ in rows])
    if max(ranks) > MOST_RANK:
        raise TooMany(MOST_RANK)
    rows, places = folded(rows)
    growth = Growth(ranks, [[models_of(condition) for condition in conditions] for _, conditions in rows])
    told = growth.grown()
    if growth.widest > MOST_PAIRS:
        raise TooMany(MOST_PAIRS)
    return ("choices", scope, tuple(unfolded(tidy(scope, told)[2], places)))


def chosen(machine):
    """The choices that let by just the trees that the machine lets by."""
    check_machine(machine)
    return chosen_of(press(machine[1], machine[2], 0))
