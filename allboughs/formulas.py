"""Formulas, long ones with shorts as further atoms, and sentences."""

from allboughs.errors import BadFormula
from allboughs.shortforms import looks_short
from allboughs.words import is_name

MOST_NODES = 100
MOST_FREE = 3

OF_TWO = ("sub", "left", "right")
JOINTS = ("both", "either")
BINDERS = ("some", "all")


def is_form(part, wide):
    """Whether it looks like a node of a formula, whatever its parts are; wide ones may be shorts."""
    if not isinstance(part, tuple) or not part or not isinstance(part[0], str):
        return False
    word = part[0]
    if word in OF_TWO:
        return len(part) == 3 and is_name(part[1]) and is_name(part[2])
    if word == "root":
        return len(part) == 2 and is_name(part[1])
    if word == "not":
        return len(part) == 2
    if word in JOINTS:
        return len(part) == 3
    if word in BINDERS:
        return len(part) == 3 and is_name(part[1])
    return wide and looks_short(part)


def parts_of(formula):
    """The formulas of which it is made, none for an atom."""
    if formula[0] in JOINTS:
        return formula[1:]
    if formula[0] in BINDERS:
        return formula[2:]
    return formula[1:] if formula[0] == "not" else ()


def scope_of_names(names):
    """The scope of one name or two."""
    if len(names) == 1 or names[0] < names[1]:
        return names
    return names[:1] if names[0] == names[1] else (names[1], names[0])


def free_in(formula):
    """The scope of the free names; None if the formula, or one in it, has more than 3 of them."""
    word = formula[0]
    if word == "not":
        return free_in(formula[1])
    if word in JOINTS:
        one = free_in(formula[1])
        other = free_in(formula[2])
        if one is None or other is None or one == other:
            return one if other is not None else None
        scope = tuple(sorted(set(one + other)))
        return scope if len(scope) <= MOST_FREE else None
    if word in BINDERS:
        scope = free_in(formula[2])
        if scope is None or formula[1] not in scope:
            return scope
        return tuple([name for name in scope if name != formula[1]])
    return scope_of_names(formula[1:])


def nodes_below(thing, wide):
    """How many nodes a formula has; None if the value does not look like one, or has too many."""
    todo = [thing]
    nodes = 0
    while todo:
        part = todo.pop()
        nodes += 1
        if nodes > MOST_NODES or not is_form(part, wide):
            return None
        todo.extend(parts_of(part))
    return nodes


def is_formula(thing):
    """Whether a value of any kind is a formula, no long one."""
    return nodes_below(thing, False) is not None and free_in(thing) is not None


def is_long(thing):
    """Whether a value of any kind is a formula in which shorts may stand as atoms."""
    return nodes_below(thing, True) is not None and free_in(thing) is not None


def check_formula(formula):
    """Raise BadFormula for what is no formula, not even a long one."""
    if not is_long(formula):
        raise BadFormula("not a formula")


def check_no_long(formula):
    """Raise BadFormula for what is no formula, or a long one."""
    if not is_formula(formula):
        raise BadFormula("not a formula without shorts")


def is_sentence(thing):
    """Whether a value of any kind is a formula, perhaps a long one, without free names."""
    return is_long(thing) and free_in(thing) == ()


def free_names(formula):
    """The scope of the free names of a formula, perhaps a long one."""
    check_formula(formula)
    return free_in(formula)


def size_of(formula):
    """The number of nodes of a formula, perhaps a long one."""
    check_formula(formula)
    return nodes_below(formula, True)
