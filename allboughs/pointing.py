"""Points formulas made machines: what holds at a place is said by what has to hold at its children; and back again."""

from allboughs.conditions import MOST_DEEP, MOST_NODES, MOST_STATES, goals
from allboughs.errors import TooMany
from allboughs.machines import check_machine, press, press_plain
from allboughs.pointparts import PARTS, Opening, Parts
from allboughs.points import check_points, marks_in
from allboughs.unfolding import Unfolding
from allboughs.woods import letters_of

MOST_UNFOLDED = 4


def condition_in(opening, part):
    """The condition of a part for a letter."""
    condition, nodes, deep = opening.condition_of(part)
    if nodes > MOST_NODES:
        raise TooMany(MOST_NODES)
    if deep > MOST_DEEP:
        raise TooMany(MOST_DEEP)
    return condition


def machine_of_points(points):
    """The machine that lets by just the trees at whose root the formula holds."""
    check_points(points)
    scope = marks_in(points)
    parts = Parts(points)
    openings = [Opening(parts, letter) for letter in letters_of(scope)]
    states = [0]
    rows = {}
    while len(rows) < len(states):
        state = states[len(rows)]
        # The condition is that of the part, whatever worth was passed on the way to it.
        conditions = [condition_in(opening, state % PARTS) for opening in openings]
        rows[state] = (state // PARTS, conditions)
        for goal in sorted({goal for condition in conditions for _, goal in goals(condition)}):
            if goal not in rows and goal not in states:
                states.append(goal)
        if len(states) > MOST_STATES:
            raise TooMany(MOST_STATES)
    return press_plain(scope, rows, 0)


def points_of(machine):
    """A points formula that holds at the root of just the trees that the machine lets by."""
    check_machine(machine)
    scope, rows = press(machine[1], machine[2], 0)[1:]
    if len(rows) > MOST_UNFOLDED:
        raise TooMany(MOST_UNFOLDED)
    return Unfolding(scope, rows).told_points()
