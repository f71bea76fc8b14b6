"""Machines made of machines: the contrary one, both, either, of a wider scope, turned, begun elsewhere."""

from allboughs.checks import is_number
from allboughs.conditions import MOST_DEEP, MOST_NODES, MOST_STATES, is_joint, moved, size_and_depth, turned_over
from allboughs.errors import BadScope, BadState, OtherScope, TooMany
from allboughs.machines import RANKS, check_machine, press
from allboughs.woods import is_scope, letters_of


def contrary(machine):
    """The machine that lets by just the woods that this one does not let by."""
    check_machine(machine)
    rows = [(rank + 1, [turned_over(condition) for condition in conditions]) for rank, conditions in machine[2]]
    told = press(machine[1], rows, 0)
    if max([rank for rank, _ in told[2]]) >= RANKS:
        raise TooMany(RANKS - 1)
    return told


def shifted(rows, shift):
    """The states with their numbers moved along."""
    numbers = list(range(shift, shift + len(rows)))
    return [(rank, [moved(condition, numbers) for condition in conditions]) for rank, conditions in rows]


def check_size(machine):
    """Raise TooMany for what would be a machine if it were not too large."""
    rows = machine[2]
    if len(rows) > MOST_STATES:
        raise TooMany(MOST_STATES)
    sizes = [size_and_depth(condition) for _, conditions in rows for condition in conditions]
    if max([nodes for nodes, _ in sizes]) > MOST_NODES:
        raise TooMany(MOST_NODES)
    if max([deep for _, deep in sizes]) > MOST_DEEP:
        raise TooMany(MOST_DEEP)


def combined(word, one, other):
    """The machine that begins with what both begin with, joined by a word."""
    check_machine(one)
    check_machine(other)
    if one[1] != other[1]:
        raise OtherScope("machines of unlike scopes")
    mine = shifted(one[2], 1)
    theirs = shifted(other[2], 1 + len(mine))
    joint = [(word, mine[0][1][at], theirs[0][1][at]) for at in range(1 << len(one[1]))]
    told = press(one[1], [(0, joint), *mine, *theirs], 0)
    check_size(told)
    return told


def meeting(one, other):
    """The machine that lets by just the woods that both let by."""
    return combined("both", one, other)


def joining(one, other):
    """The machine that lets by just the woods that one of them lets by, or both do."""
    return combined("either", one, other)


def widened(machine, scope):
    """The machine of a wider scope that does not look at the names that are new."""
    check_machine(machine)
    old = machine[1]
    if not is_scope(scope) or not all(name in scope for name in old):
        raise BadScope("not a scope with all names of the machine")
    known = letters_of(old)
    places = [known.index(tuple([name for name in letter if name in old])) for letter in letters_of(scope)]
    rows = [(rank, tuple([conditions[place] for place in places])) for rank, conditions in machine[2]]
    return ("machine", scope, tuple(rows))


def exchanged_goes(condition):
    """The condition with left and right exchanged in its goes."""
    if condition[0] == "go":
        return ("go", 1 - condition[1], condition[2])
    if is_joint(condition):
        return (condition[0], exchanged_goes(condition[1]), exchanged_goes(condition[2]))
    return condition


def turned(machine):
    """The machine with left and right exchanged."""
    check_machine(machine)
    rows = [(rank, tuple([exchanged_goes(condition) for condition in row])) for rank, row in machine[2]]
    return ("machine", machine[1], tuple(rows))


def started(machine, state):
    """The machine that begins with this state."""
    check_machine(machine)
    if not is_number(state, len(machine[2])):
        raise BadState("not a number of a state")
    return press(machine[1], machine[2], state)
