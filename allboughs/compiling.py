"""From formulas to machines, and to choices: of atoms by hand, of all others from those of their parts.

Formulas are taken as formulas.scoped tells them: (word, scope, ..), a part of one word behind that, a name last.
"""

from allboughs.building import contrary_draft, joint_draft, reached_draft, widened_draft
from allboughs.choices import machine_draft, told_choices
from allboughs.chosen import chosen_draft
from allboughs.conditions import CONTRARIES, NO, to_both
from allboughs.drafts import MachineDraft
from allboughs.formulas import JOINTS, check_formula, scope_of_names
from allboughs.hiding import hidden_draft
from allboughs.machines import told_machine
from allboughs.pruning import pruned_draft
from allboughs.shortforms import looks_short
from allboughs.shorts import hand


def sub_goals(state, x, y):
    """The states left and right that ("sub", x, y) asks for with a letter with x, with y, told by 1 and 0, or None."""
    return None if x > y else (0, 0)


def root_goals(state, x, y):
    """The same for ("root", x): state 0 wants x, state 1 wants none."""
    return (1, 1) if x != state else None


def left_goals(state, x, y):
    """The same for ("left", x, y): y is due in state 1 alone."""
    return (x, 0) if y == state else None


def right_goals(state, x, y):
    """The same for ("right", x, y): y is due in state 1 alone."""
    return (0, x) if y == state else None


# The drafts of these machines, with x ahead of y: places, columns, conditions; "one" is left or right of one name, for
# which the state in which marks are due is never met.
SHAPES = {
    "sub": ((0, 1, 0, 0), ((0,), (1,)), (("any", ((0, 0),)), ("no",))),
    "sub one": ((0, 0), ((0,),), (("any", ((0, 0),)),)),
    "root": ((0, 1), ((0, 1), (1, 0)), (("no",), ("any", ((1, 1),)))),
    "left": ((0, 1, 2, 3), ((0, 1), (2, 1), (1, 0), (1, 2)), (("any", ((0, 0),)), ("no",), ("any", ((1, 0),)))),
    "right": ((0, 1, 2, 3), ((0, 1), (2, 1), (1, 0), (1, 2)), (("any", ((0, 0),)), ("no",), ("any", ((0, 1),)))),
    "one": ((0, 1), ((0,), (1,)), (("any", ((0, 0),)), ("no",))),
}
GOALS = {"sub": sub_goals, "root": root_goals, "left": left_goals, "right": right_goals}
STATES = {"sub": 1, "root": 2, "left": 2, "right": 2}


def goals_of_atom(atom, scope, states):
    """The goals of so many states of the machine of an atom that is no short, letter by letter."""
    goals = GOALS[atom[0]]
    x = scope.index(atom[1])
    y = scope.index(atom[-1])
    told = []
    for letter in range(1 << len(scope)):
        told.append([goals(state, letter >> x & 1, letter >> y & 1) for state in range(states)])
    return told


def machine_of_atom(atom):
    """The machine of an atom, or of a short."""
    if looks_short(atom):
        return hand(atom)
    scope = scope_of_names(atom[1:])
    columns = goals_of_atom(atom, scope, STATES[atom[0]])
    rows = []
    for row in zip(*columns):
        rows.append((0, tuple([NO if goals is None else to_both(goals[0], goals[1]) for goals in row])))
    return ("machine", scope, tuple(rows))


def draft_of_atom(atom, scope):
    """The draft of the machine of an atom, or of a short, pressed."""
    word = atom[0]
    if word not in STATES:
        return reached_draft(hand(atom))
    shape = word if word == "root" or len(scope) == 2 else "sub one" if word == "sub" else "one"
    places, columns, conditions = SHAPES[shape]
    if len(scope) == 2 and atom[1] != scope[0]:
        places = (places[0], places[2], places[1], places[3])
    columns = [list(column) for column in columns]
    return MachineDraft(scope, [0] * len(columns[0]), places, columns, list(conditions))


def some_not(tree):
    """What says of a formula with all in front that it does not hold: some set with which its part does not."""
    _, scope, part, name = tree
    return ("some", scope, ("not", part[1], part), name)


def core_of(tree):
    """The formula of which the machine is made: without not not and some that binds nothing, with some for not all."""
    while True:
        part = tree[2]
        if tree[0] == "not" and part[0] == "not":
            tree = part[2]
        elif tree[0] == "not" and part[0] == "all":
            tree = some_not(part)
        elif tree[0] == "some" and tree[3] not in part[1]:
            tree = part
        else:
            return tree


def joint_of(word, scope, one, other):
    """The draft of two machines joined by a word, widened to a scope first."""
    return joint_draft(word, widened_draft(one, scope), widened_draft(other, scope))


def build_contrary(tree):
    """The draft of the contrary of the machine of a formula.

    That of two joined ones is their contraries joined by the other word: conditions, states and ranks are the same, as
    no ring has states of both. If all ranks are 0 the contrary of the contrary is the machine itself.
    """
    tree = core_of(tree)
    if tree[0] in JOINTS:
        return joint_of(CONTRARIES[tree[0]], tree[1], build_contrary(tree[2]), build_contrary(tree[3]))
    if tree[0] == "not":
        told = build_machine(tree[2])
        return told if max(told.ranks) == 0 else contrary_draft(contrary_draft(told))
    return contrary_draft(build_machine(tree))


def build_machine(tree):
    """The draft of the machine of a formula, pressed."""
    tree = core_of(tree)
    word = tree[0]
    if word in JOINTS:
        return joint_of(word, tree[1], build_machine(tree[2]), build_machine(tree[3]))
    if word == "not":
        return build_contrary(tree[2])
    if word == "all":
        return build_contrary(some_not(tree))
    if word == "some":
        return machine_draft(build_choices(tree))
    return draft_of_atom(tree[2], tree[1])


def build_choices(tree):
    """The draft of the choices of a formula; they are tidied."""
    names = []
    tree = core_of(tree)
    while tree[0] == "some":
        names.append(tree[3])
        tree = core_of(tree[2])
    told = pruned_draft(chosen_draft(build_machine(tree)))
    for name in names[::-1]:
        told = pruned_draft(hidden_draft(told, name))
    return told


def machine_in(tree):
    """The machine of a formula. Unless it is that of an atom it is pressed."""
    tree = core_of(tree)
    if len(tree) == 3 and tree[0] != "not":
        return machine_of_atom(tree[2])
    return told_machine(build_machine(tree))


def machine_of(formula):
    """The machine that lets marks by exactly if the formula holds for them."""
    return machine_in(check_formula(formula))


def choices_of(formula):
    """The choices that let marks by exactly if the formula holds for them."""
    return told_choices(build_choices(check_formula(formula)))
