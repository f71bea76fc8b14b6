"""From machines to choices: one guess at each place, with histories that judge all traces of what is guessed."""

from allboughs.choices import MOST_PAIRS, tidied_draft, told_choices
from allboughs.conditions import MOST_STATES, NO
from allboughs.drafts import ChoicesDraft, masks_in, refolded, unlike
from allboughs.errors import TooMany
from allboughs.leading import Leader
from allboughs.machines import check_machine, press
from allboughs.models import masks_of_models
from allboughs.ranking import ranks_anew

MOST_PRESSED = 24
MOST_RANK = 9
MOST_GUESSES = 2000
STAY = ("any", ((0, 0),))


class Growth:
    """The states of the choices as they are met: a history, as the module leading tells it, and a rank.

    models has for each condition its models, masks of the states left above those of the states right. columns has
    for each letter the conditions of the states, and the masks of the states without models, and with several. heard
    has for the nests of a history, and for what a step leads to, the number of the state behind it. straight tells
    whether states are met in the sequence of the pairs of lists as well.
    """

    def __init__(self, draft):
        """Begin with the first state, told a pressed machine."""
        self.leader = Leader(draft.ranks)
        self.half = len(draft.ranks)
        bits = [[bit << self.half for bit in self.leader.bits], self.leader.bits]
        self.models = [masks_of_models(condition, bits) for condition in draft.conditions]
        self.columns = [self.asked(column) for column in draft.columns]
        self.states = [(self.leader.start, 0)]
        self.met = {self.states[0]: 0}
        self.heard = {}
        self.lists = {}
        self.straight = True

    def asked(self, column):
        """What a letter asks of the states."""
        shut = 0
        loose = 0
        for at, bit in zip(column, self.leader.bits):
            many = len(self.models[at])
            if many > 1:
                loose |= bit
            elif many == 0:
                shut |= bit
        return column, shut, loose

    def number(self, homes, led):
        """The number of the state behind a step, which is met now if it was not met yet."""
        state = self.leader.behind(homes, led)
        if state not in self.met:
            if len(self.states) == MOST_STATES:
                raise TooMany(MOST_STATES)
            self.met[state] = len(self.states)
            self.states.append(state)
        return self.met[state]

    def guesses(self, spreads, column):
        """What all guesses lead to, each told where it stands first, if there are not too many of them.

        spreads has for each reached state the number that brings the goals of its models where they belong.
        """
        many = 1
        led = 0
        several = []
        for state, spread in spreads:
            options = self.models[column[state]]
            if len(options) == 1:
                led |= options[0] * spread
            else:
                many *= len(options)
                several.append([option * spread for option in options])
        if many > MOST_GUESSES:
            raise TooMany(MOST_GUESSES)
        told = [led | option for option in several[0]]
        for options in several[1:]:
            told = list({guess | option: True for guess in told for option in options})
        return told

    def list_of(self, guesses, sides, homes, heard):
        """The list of the pairs of states to which guesses lead; sides has the bits of what is led right."""
        known = len(self.states)
        half = self.half
        found = {}
        for guess in guesses:
            left = guess >> half & sides
            if left not in heard:
                heard[left] = self.number(homes, left)
            right = guess & sides
            if right not in heard:
                heard[right] = self.number(homes, right)
            found[(heard[left], heard[right])] = True
        if len(found) == 1:
            return tuple(found)
        pairs = sorted(found)
        if len(self.states) > known + 1 and self.straight:
            fresh = [state for pair in pairs for state in pair if state >= known]
            self.straight = unlike(fresh)[0] == list(range(known, len(self.states)))
        return tuple(pairs)

    def numbers_behind(self, history):
        """The numbers of the lists behind a history, letter by letter."""
        homes, fields = history
        leader = self.leader
        lowest = leader.lowest_bits(homes)
        sides = lowest * leader.whole
        goals = fields & leader.whole
        spreads = [(state, fields >> place & lowest) for state, place in leader.reached(goals)]
        if homes not in self.heard:
            self.heard[homes] = {}
        heard = self.heard[homes]
        told = []
        models = self.models
        for column, shut, loose in self.columns:
            if goals & shut:
                pairs = ()
            elif goals & loose:
                pairs = self.list_of(self.guesses(spreads, column), sides, homes, heard)
            else:
                guess = 0
                for state, spread in spreads:
                    guess |= models[column[state]][0] * spread
                left = guess >> self.half & sides
                if left not in heard:
                    heard[left] = self.number(homes, left)
                right = guess & sides
                if right not in heard:
                    heard[right] = self.number(homes, right)
                pairs = ((heard[left], heard[right]),)
            if pairs not in self.lists:
                self.lists[pairs] = len(self.lists)
            told.append(self.lists[pairs])
        return told

    def grown(self):
        """For each state the numbers of its lists, when all states are met."""
        rows = []
        known = {}
        while len(rows) < len(self.states):
            history = self.states[len(rows)][0]
            if history not in known:
                known[history] = self.numbers_behind(history)
            rows.append(known[history])
        return rows

    def masks_behind(self, rows):
        """For each state the mask of the states to which it leads."""
        masks = masks_in(self.lists)
        told = []
        for row in rows:
            mask = 0
            for at in row:
                mask |= masks[at]
            told.append(mask)
        return told


def chosen_draft(draft):
    """The draft of the choices of a pressed machine."""
    if len(draft.ranks) > MOST_PRESSED:
        raise TooMany(MOST_PRESSED)
    if max(draft.ranks) > MOST_RANK:
        raise TooMany(MOST_RANK)
    if draft.ranks == [0] and all(condition == NO or condition == STAY for condition in draft.conditions):
        # There is but one history: that of the state alone.
        lists, numbers = unlike([() if draft.conditions[column[0]] == NO else ((0, 0),) for column in draft.columns])
        places, columns = refolded(draft.places, [[number] for number in numbers])
        return ChoicesDraft(draft.scope, [0], places, columns, lists)
    growth = Growth(draft)
    rows = growth.grown()
    lists = list(growth.lists)
    if max([len(pairs) for pairs in lists]) > MOST_PAIRS:
        raise TooMany(MOST_PAIRS)
    ranks = [rank for _, rank in growth.states]
    if max(ranks) > 0:
        ranks = ranks_anew(ranks, growth.masks_behind(rows))
    places, columns = refolded(draft.places, [list(column) for column in zip(*rows)])
    told = ChoicesDraft(draft.scope, ranks, places, columns, lists)
    # No ring, and so no rank, is another one if states have other numbers.
    return told if growth.straight else tidied_draft(told)


def chosen(machine):
    """The choices that let by just the trees that the machine lets by."""
    check_machine(machine)
    return told_choices(chosen_draft(press(machine[1], machine[2], 0)))
