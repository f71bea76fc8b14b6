"""Machines made of machines: the contrary one, both, either, of a wider scope, turned, begun elsewhere."""

from allboughs.checks import is_number
from allboughs.conditions import MOST_DEEP, MOST_NODES, MOST_STATES, is_joint, moved, plainly_joined, size_and_depth
from allboughs.conditions import turned_over
from allboughs.errors import BadScope, BadState, OtherScope, TooMany
from allboughs.folding import folded, unfolded
from allboughs.machines import RANKS, check_machine, plain_rows, press, press_plain, press_ranked
from allboughs.woods import is_scope


def plain_machine(machine):
    """The machine with its conditions made plain."""
    return ("machine", machine[1], plain_rows(machine[2]))


def contrary_of(machine):
    """The contrary of what is known to be a machine, whose conditions are plain."""
    rows, places = folded(machine[2])
    rows = [(rank + 1, tuple([turned_over(condition) for condition in conditions])) for rank, conditions in rows]
    told = press_plain(machine[1], unfolded(rows, places), 0)
    if max([rank for rank, _ in told[2]]) >= RANKS:
        raise TooMany(RANKS - 1)
    return told


def contrary(machine):
    """The machine that lets by just the woods that this one does not let by."""
    check_machine(machine)
    return contrary_of(plain_machine(machine))


def check_size(rows):
    """Raise TooMany for the states of what would be a machine if it were not too large; just the first one is new."""
    if len(rows) > MOST_STATES:
        raise TooMany(MOST_STATES)
    sizes = [size_and_depth(condition) for condition in rows[0][1]]
    if max([nodes for nodes, _ in sizes]) > MOST_NODES:
        raise TooMany(MOST_NODES)
    if max([deep for _, deep in sizes]) > MOST_DEEP:
        raise TooMany(MOST_DEEP)


def joint_rows(word, one, other):
    """The states of a machine that begins with what two machines begin with, joined by a word; and folds of letters.

    Behind a new first state stand those of one, then those of other. All their conditions are plain.
    """
    many = len(one[2])
    rows, places = folded([*one[2], *other[2]])
    shifts = [list(range(1, 1 + many)), list(range(1 + many, 1 + len(rows)))]
    rows = [(rank, [moved(part, shifts[at >= many]) for part in row]) for at, (rank, row) in enumerate(rows)]
    joint = [plainly_joined(word, mine, theirs) for mine, theirs in zip(rows[0][1], rows[many][1])]
    return [(0, joint), *rows], places


def sized(scope, rows, places):
    """The machine of these states, if it is not too large."""
    check_size(rows)
    return ("machine", scope, tuple(unfolded(rows, places)))


def combined(word, one, other):
    """What is known to be two machines of one scope, joined by a word; their ranks are told anew already.

    No ring has the new first state, so all of them stay.
    """
    rows, places = joint_rows(word, one, other)
    return sized(one[1], press_ranked(one[1], rows)[2], places)


def combined_plain(word, one, other):
    """What is known to be two machines of one scope with plain conditions, joined by a word."""
    rows, places = joint_rows(word, one, other)
    return sized(one[1], press_plain(one[1], rows, 0)[2], places)


def combined_anew(word, one, other):
    """Two machines of one scope joined by a word."""
    check_machine(one)
    check_machine(other)
    if one[1] != other[1]:
        raise OtherScope("machines of unlike scopes")
    return combined_plain(word, plain_machine(one), plain_machine(other))


def meeting(one, other):
    """The machine that lets by just the woods that both let by."""
    return combined_anew("both", one, other)


def joining(one, other):
    """The machine that lets by just the woods that one of them lets by, or both do."""
    return combined_anew("either", one, other)


def widened_to(machine, scope):
    """What is known to be a machine, of a wider scope that does not look at the names that are new."""
    old = machine[1]
    if old == scope:
        return machine
    bits = [scope.index(name) for name in old]
    places = [sum([(number >> bit & 1) << at for at, bit in enumerate(bits)]) for number in range(1 << len(scope))]
    return ("machine", scope, tuple([(rank, tuple([row[place] for place in places])) for rank, row in machine[2]]))


def widened(machine, scope):
    """The machine of a wider scope that does not look at the names that are new."""
    check_machine(machine)
    if not is_scope(scope) or not all(name in scope for name in machine[1]):
        raise BadScope("not a scope with all names of the machine")
    return widened_to(machine, scope)


def exchanged_goes(condition):
    """The condition with left and right exchanged in its goes."""
    if condition[0] == "go":
        return ("go", 1 - condition[1], condition[2])
    if is_joint(condition):
        return (condition[0], exchanged_goes(condition[1]), exchanged_goes(condition[2]))
    return condition


def turned(machine):
    """The machine with left and right exchanged."""
    check_machine(machine)
    rows = [(rank, tuple([exchanged_goes(condition) for condition in row])) for rank, row in machine[2]]
    return ("machine", machine[1], tuple(rows))


def started(machine, state):
    """The machine that begins with this state."""
    check_machine(machine)
    if not is_number(state, len(machine[2])):
        raise BadState("not a number of a state")
    return press(machine[1], machine[2], state)
