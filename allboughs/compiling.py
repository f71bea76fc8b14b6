"""From formulas to machines, and to choices: of atoms by hand, of all others from those of their parts."""

from allboughs.building import combined, contrary_of, widened_to
from allboughs.choices import machine_of_tidied
from allboughs.chosen import chosen_of
from allboughs.conditions import NO, to_both
from allboughs.formulas import JOINTS, check_formula, free_in, parts_of
from allboughs.hiding import hidden_of
from allboughs.machines import press_plain
from allboughs.pruning import pruned_of
from allboughs.shortforms import looks_short
from allboughs.shorts import hand
from allboughs.woods import letters_of


def sub_condition(state, x, y):
    """The condition of ("sub", x, y) for a letter with x, with y."""
    return NO if x and not y else to_both(0, 0)


def root_condition(state, x, y):
    """The condition of ("root", x): state 0 wants x, state 1 wants none."""
    return to_both(1, 1) if x == (state == 0) else NO


def left_condition(state, x, y):
    """The condition of ("left", x, y): y is due in state 1 alone."""
    return to_both(1 if x else 0, 0) if y == (state == 1) else NO


def right_condition(state, x, y):
    """The condition of ("right", x, y): y is due in state 1 alone."""
    return to_both(0, 1 if x else 0) if y == (state == 1) else NO


CONDITIONS = {"sub": sub_condition, "root": root_condition, "left": left_condition, "right": right_condition}
STATES = {"sub": 1, "root": 2, "left": 2, "right": 2}


def machine_of_atom(atom):
    """The machine of an atom, or of a short."""
    if looks_short(atom):
        return hand(atom)
    scope = tuple(sorted(set(atom[1:])))
    condition = CONDITIONS[atom[0]]
    rows = []
    for state in range(STATES[atom[0]]):
        row = [condition(state, atom[1] in letter, atom[-1] in letter) for letter in letters_of(scope)]
        rows.append((0, tuple(row)))
    return ("machine", scope, tuple(rows))


def some_not(formula):
    """What says of a formula with all in front that it does not hold: some set with which its part does not."""
    return ("some", formula[1], ("not", formula[2]))


def build_machine(formula):
    """The machine of what is known to be a formula. Its conditions are plain; unless it is of an atom it is pressed."""
    word = formula[0]
    if word in JOINTS:
        one = build_machine(formula[1])
        other = build_machine(formula[2])
        scope = tuple(sorted(set(one[1] + other[1])))
        return combined(word, widened_to(one, scope), widened_to(other, scope))
    if word == "not":
        part = formula[1]
        if part[0] == "not":
            return build_machine(part[1])
        if part[0] == "all":
            return build_machine(some_not(part))
        return contrary_of(build_machine(part))
    if word == "all":
        return contrary_of(build_machine(some_not(formula)))
    if word == "some":
        if formula[1] not in free_in(formula[2]):
            return build_machine(formula[2])
        return machine_of_tidied(build_choices(formula))
    return machine_of_atom(formula)


def pressed_of(formula):
    """The machine of what is known to be a formula, pressed."""
    told = build_machine(formula)
    return told if parts_of(formula) else press_plain(told[1], told[2], 0)


def build_choices(formula):
    """The choices of what is known to be a formula; they are tidied."""
    names = []
    part = formula
    while part[0] == "some" or part[0] == "not" and part[1][0] in ("not", "all"):
        if part[0] == "not":
            part = part[1][1] if part[1][0] == "not" else some_not(part[1])
        else:
            if part[1] in free_in(part[2]):
                names.append(part[1])
            part = part[2]
    told = pruned_of(chosen_of(pressed_of(part)))
    for name in names[::-1]:
        told = pruned_of(hidden_of(told, name))
    return told


def machine_of(formula):
    """The machine that lets marks by exactly if the formula holds for them."""
    check_formula(formula)
    return build_machine(formula)


def choices_of(formula):
    """The choices that let marks by exactly if the formula holds for them."""
    check_formula(formula)
    return build_choices(formula)
