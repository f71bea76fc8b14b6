"""Points formulas made machines: what holds at a place is said by what has to hold at its children; and back again."""

from allboughs.conditions import MOST_DEEP, MOST_NODES, MOST_STATES, moved, states_in
from allboughs.drafts import MachineDraft, machine_ranks, refolded, used_things
from allboughs.errors import TooMany
from allboughs.machines import check_machine, press, told_machine
from allboughs.pointparts import PARTS, Opening, Parts
from allboughs.points import check_points, marks_in
from allboughs.unfolding import Unfolding
from allboughs.woods import letters_of

MOST_UNFOLDED = 4


def condition_in(opening, part):
    """The condition of a part for a letter."""
    condition, nodes, deep = opening.condition_of(part)
    if nodes > MOST_NODES:
        raise TooMany(MOST_NODES)
    if deep > MOST_DEEP:
        raise TooMany(MOST_DEEP)
    return condition


class Pointing:
    """The states of the machine of a points formula as they are met: each a part and a worth, told by one number.

    Its conditions are those of the part, whatever worth was passed on the way to it: places has for each part the
    numbers of its conditions, letter by letter; ways has for each condition the states of its goes.
    """

    def __init__(self, points, scope):
        """Meet them at once."""
        parts = Parts(points)
        self.openings = [Opening(parts, letter) for letter in letters_of(scope)]
        self.conditions = []
        self.ways = []
        self.places = {}
        self.states = [0]
        self.numbers = {0: 0}
        at = 0
        while at < len(self.states):
            part = self.states[at] % PARTS
            at += 1
            if part not in self.places:
                self.places[part] = self.places_of(part)
                self.meet(self.places[part])

    def places_of(self, part):
        """The numbers of the conditions of a part, which are new."""
        told = [condition_in(opening, part) for opening in self.openings]
        begun = len(self.conditions)
        self.conditions.extend(told)
        self.ways.extend([states_in(condition) for condition in told])
        return [begun + told.index(condition) for condition in told]

    def meet(self, places):
        """Meet the states of the goes of some conditions."""
        for at in places:
            for state in self.ways[at]:
                if state not in self.numbers:
                    if len(self.states) == MOST_STATES:
                        raise TooMany(MOST_STATES)
                    self.numbers[state] = len(self.states)
                    self.states.append(state)


def draft_of_points(points):
    """The draft of the machine of what is known to be a points formula."""
    scope = marks_in(points)
    told = Pointing(points, scope)
    rows = [told.places[state % PARTS] for state in told.states]
    used, columns = used_things([list(column) for column in zip(*rows)])
    places, columns = refolded(list(range(len(columns))), columns)
    conditions = [moved(told.conditions[at], told.numbers) for at in used]
    ranks = machine_ranks([state // PARTS for state in told.states], columns, conditions)
    return MachineDraft(scope, ranks, places, columns, conditions)


def machine_of_points(points):
    """The machine that lets by just the trees at whose root the formula holds."""
    check_points(points)
    return told_machine(draft_of_points(points))


def points_of(machine):
    """A points formula that holds at the root of just the trees that the machine lets by."""
    check_machine(machine)
    scope, rows = told_machine(press(machine[1], machine[2], 0))[1:]
    if len(rows) > MOST_UNFOLDED:
        raise TooMany(MOST_UNFOLDED)
    return Unfolding(scope, rows).told_points()
