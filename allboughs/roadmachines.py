"""Roads formulas made machines: a road is guessed, and what is to hold on it later is promised."""

from allboughs.conditions import MOST_DEEP, MOST_NODES, MOST_STATES, goals
from allboughs.errors import TooMany
from allboughs.machines import press_plain, told_machine
from allboughs.roadconditions import AtLetter, told_by
from allboughs.roadparts import Roads
from allboughs.roads import check_roads, marks_in
from allboughs.woods import letters_of


def checked(told):
    """A condition, told with its nodes and its depth, if it is one of a machine."""
    condition, nodes, deep = told
    if nodes > MOST_NODES:
        raise TooMany(MOST_NODES)
    if deep > MOST_DEEP:
        raise TooMany(MOST_DEEP)
    return condition


def rank_of(parts, number):
    """The rank of a state: what is owed for ever is not paid again and again."""
    if number == 0:
        return 0
    road, _, _, paid = told_by(number)
    return paid if parts.roads[road].is_contrary else paid + 1


def machine_of_roads(roads):
    """A machine that lets by just the trees at whose root a roads formula holds."""
    check_roads(roads)
    scope = marks_in(roads)
    parts = Roads(roads)
    tellers = [AtLetter(parts, letter) for letter in letters_of(scope)]
    states = [0]
    rows = {}
    while len(rows) < len(states):
        number = states[len(rows)]
        conditions = [checked(teller.of_state(number)) for teller in tellers]
        rows[number] = (rank_of(parts, number), conditions)
        for goal in sorted({goal for condition in conditions for _, goal in goals(condition)}):
            if goal not in states:
                states.append(goal)
        if len(states) > MOST_STATES:
            raise TooMany(MOST_STATES)
    return told_machine(press_plain(scope, rows, 0))
